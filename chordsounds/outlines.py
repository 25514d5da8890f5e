"""The calls, as they are handed in and answered: one list of whole numbers each way."""

from chordsounds.clashes import clashes_among
from chordsounds.counting import count_ways
from chordsounds.giving import give_out
from chordsounds.reading import first_words
from chordsounds.theory import Theory, is_chord, is_theory, is_word, read_rules
from chordsounds.writing import MOST_OUTLINES, MOST_STROKES, first_outlines

BEGIN = 0
BEST = 1
ALL = 2
WAYS = 3
SAID = 4
GIVE = 5
CLASH = 6

# By a call's number: how many whole numbers it has ahead of its row.
NUMBERS_AHEAD = (1, 0, 1, 0, 1, 0, 0)

WRONG = -1
TOO_MANY = -2
NO_OUTLINE = -3
NOT_BEGUN = -9

MOST_WORDS_SAID = 16
MOST_STROKES_SAID = 3
MOST_WORDS_GIVEN = 24
MOST_IN_CLASH = 40
TOO_MANY_WAYS = 9007199254740992


class Desk:
    """What calls are made on: it keeps the theory that was begun last."""

    def __init__(self):
        self.theory = None

    def answer(self, number, ahead, row):
        if number == BEGIN:
            return self.begin(ahead[0], row)
        if number == CLASH:
            return told_clashes(read_rows(row))
        if self.theory is None:
            return [NOT_BEGUN]
        if number == BEST:
            return self.best(row)
        if number == ALL:
            return self.every(ahead[0], row)
        if number == WAYS:
            return self.ways(row)
        if number == SAID:
            return self.said(ahead[0], row)
        return self.give(read_rows(row))

    def begin(self, key_count, row):
        rules = read_rules(row)
        if not is_theory(key_count, rules):
            return [WRONG]
        self.theory = Theory(key_count, rules)
        return [0]

    def best(self, word):
        if not is_word(word):
            return [WRONG]
        outlines = first_outlines(self.theory, word, 1)
        if not outlines:
            return [NO_OUTLINE]
        return [0] + with_count(outlines[0])

    def every(self, most, word):
        if not is_word(word) or most > MOST_OUTLINES:
            return [WRONG]
        return [0] + told_rows(first_outlines(self.theory, word, most))

    def ways(self, word):
        if not is_word(word):
            return [WRONG]
        return told_ways(count_ways(self.theory, word))

    def said(self, most, outline):
        if not 1 <= len(outline) <= MOST_STROKES_SAID or most > MOST_WORDS_SAID:
            return [WRONG]
        if not all([is_chord(chord, self.theory.key_count) for chord in outline]):
            return [WRONG]
        return [0] + told_rows(first_words(self.theory, outline, most))

    def give(self, words):
        if len(words) > MOST_WORDS_GIVEN or not all([is_word(word) for word in words]):
            return [WRONG]
        return [0] + told_rows(give_out(self.theory, words))


def told_ways(count):
    if count >= TOO_MANY_WAYS:
        return [TOO_MANY]
    return [0, count]


def told_clashes(outlines):
    if len(outlines) > MOST_IN_CLASH:
        return [WRONG]
    if any([len(outline) > MOST_STROKES or 0 in outline for outline in outlines]):
        return [WRONG]
    return [0] + told_rows(clashes_among([tuple(outline) for outline in outlines]))


def read_rows(numbers):
    """The rows that lie one behind another in a list, each behind how many numbers it has."""
    rows = []
    place = 0
    while place < len(numbers):
        end = place + 1 + numbers[place]
        rows.append(numbers[place + 1:end])
        place = end
    return rows


def with_count(row):
    return [len(row)] + list(row)


def told_rows(rows):
    told = [len(rows)]
    for row in rows:
        told.extend(with_count(row))
    return told


def answers(calls):
    """Answer the calls of one list, on a new desk, in one list."""
    desk = Desk()
    told = []
    place = 0
    while place < len(calls):
        number = calls[place]
        count_place = place + 1 + NUMBERS_AHEAD[number]
        row_end = count_place + 1 + calls[count_place]
        told.extend(with_count(desk.answer(number, calls[place + 1:count_place], calls[count_place + 1:row_end])))
        place = row_end
    return told
