"""Outlines given out to words in a row, so that no clash is left."""

from chordsounds.clashes import WordRow
from chordsounds.writing import MOST_OUTLINES, first_outlines


def give_out(theory, words):
    """Each word's outline, an empty one where there is none to give."""
    row = WordRow()
    for word in words:
        row.put(first_without_clash(row, first_outlines(theory, word, MOST_OUTLINES)))
    return row.outlines


def first_without_clash(row, outlines):
    for outline in outlines:
        if not row.clashes_of(tuple(outline)):
            return tuple(outline)
    return ()
