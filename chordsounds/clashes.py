"""Clashes among words in a row, each with an outline or none."""

OF_TWO = 1000


class WordRow:
    """The words that have come so far, by their outlines (tuples of chords, an empty one for none).

    A clash is found when its last word comes: so a row's clashes come in the order in which they are told, and
    whoever gives outlines out may ask beforehand.
    """

    def __init__(self):
        self.outlines = []
        self.by_outline = {}

    def put(self, outline):
        self.by_outline.setdefault(outline, []).append(len(self.outlines))
        self.outlines.append(outline)

    def clashes_of(self, outline):
        """The clashes that the next word has with those before, if that is its outline; in order."""
        if not outline:
            return []
        return self.of_two(outline) + sorted(self.as_whole(outline) + self.as_part(outline))

    def of_two(self, outline):
        return [(first, len(self.outlines), OF_TWO) for first in self.having(outline)]

    def as_whole(self, outline):
        """The clashes of three in which the next word's outline is made of two others."""
        found = []
        for cut in range(1, len(outline)):
            ends = self.having(outline[cut:])
            for start in self.having(outline[:cut]):
                found.extend([(len(self.outlines), start, end) for end in ends])
        return found

    def as_part(self, outline):
        """The clashes of three in which the next word's outline begins or ends another, or does both."""
        found = []
        number = len(self.outlines)
        size = len(outline)
        for whole, chords in enumerate(self.outlines):
            if len(chords) > size and chords[:size] == outline:
                found.extend([(whole, number, end) for end in self.having(chords[size:])])
            if len(chords) > size and chords[-size:] == outline:
                found.extend([(whole, start, number) for start in self.having(chords[:-size])])
            if chords == outline + outline:
                found.append((whole, number, number))
        return found

    def having(self, outline):
        """The numbers of the words so far with that outline."""
        return self.by_outline.get(outline, ())


def clashes_among(outlines):
    row = WordRow()
    found = []
    for outline in outlines:
        found.extend(row.clashes_of(outline))
        row.put(outline)
    return found
