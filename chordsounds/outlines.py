"""The calls, as they are handed in and answered: one list of whole numbers each way."""

from chordsounds.counting import count_ways
from chordsounds.theory import Theory, is_theory, is_word, read_rules
from chordsounds.writing import first_outlines

BEGIN = 0
BEST = 1
ALL = 2
WAYS = 3
CLASH = 6

# By a call's number: how many whole numbers it has ahead of its row.
NUMBERS_AHEAD = (1, 0, 1, 0, 1, 0, 0)

WRONG = -1
TOO_MANY = -2
NO_OUTLINE = -3
NOT_BEGUN = -9

MOST_OUTLINES = 16
TOO_MANY_WAYS = 9007199254740992


class Desk:
    """What calls are made on: it keeps the theory that was begun last."""

    def __init__(self):
        self.theory = None

    def answer(self, number, ahead, row):
        if number == BEGIN:
            return self.begin(ahead[0], row)
        if self.theory is None and number != CLASH:
            return [NOT_BEGUN]
        if number == BEST:
            return self.best(row)
        if number == ALL:
            return self.every(ahead[0], row)
        if number == WAYS:
            return self.ways(row)
        raise NotImplementedError("said, give and clash are not built yet")

    def begin(self, key_count, row):
        rules = read_rules(row)
        if not is_theory(key_count, rules):
            return [WRONG]
        self.theory = Theory(key_count, rules)
        return [0]

    def best(self, word):
        if not is_word(word):
            return [WRONG]
        outlines = first_outlines(self.theory, word, 1)
        if not outlines:
            return [NO_OUTLINE]
        return [0] + with_count(outlines[0])

    def every(self, most, word):
        if not is_word(word) or most > MOST_OUTLINES:
            return [WRONG]
        return [0] + told_rows(first_outlines(self.theory, word, most))

    def ways(self, word):
        if not is_word(word):
            return [WRONG]
        return told_ways(count_ways(self.theory, word))


def told_ways(count):
    if count >= TOO_MANY_WAYS:
        return [TOO_MANY]
    return [0, count]


def with_count(row):
    return [len(row)] + row


def told_rows(rows):
    told = [len(rows)]
    for row in rows:
        told.extend(with_count(row))
    return told


def answers(calls):
    """Answer the calls of one list, on a new desk, in one list."""
    desk = Desk()
    told = []
    place = 0
    while place < len(calls):
        number = calls[place]
        count_place = place + 1 + NUMBERS_AHEAD[number]
        row_end = count_place + 1 + calls[count_place]
        told.extend(with_count(desk.answer(number, calls[place + 1:count_place], calls[count_place + 1:row_end])))
        place = row_end
    return told
