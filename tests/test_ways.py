"""ways: rows of rules with where strokes end, each counted once."""

import unittest

from chordsounds.outlines import told_ways
from tests.helper import EXAMPLE, ONE_KEY_ONLY, after, slow_ways, ways

LIMIT = 2 ** 53


def low_high_and_wide(low, high, wide):
    """Rules of one sound: with key 0 alone of its ends, with key 23 alone, with both. Only low, high fit a stroke."""
    chords = [1 + 2 * number for number in range(low)]
    chords += [(1 << 23) + (number << 12) for number in range(high)]
    chords += [(1 << 23) + 1 + (number << 6) for number in range(wide)]
    return [((1,), chord) for chord in sorted(chords)]


def ways_of_low_high_and_wide(low, high, wide, sounds):
    """By strokes, how many end in a low rule and how many in another."""
    counts = {1: (low, high + wide)}
    for _ in range(sounds - 1):
        grown = {}
        for strokes, (lows, others) in counts.items():
            old = grown.get(strokes, (0, 0))
            grown[strokes] = (old[0], old[1] + lows * high)
            old = grown.get(strokes + 1, (0, 0))
            grown[strokes + 1] = (old[0] + (lows + others) * low, old[1] + (lows + others) * (high + wide))
        counts = grown
    return sum(sum(pair) for strokes, pair in counts.items() if strokes <= 10)


class Ways(unittest.TestCase):
    def ways(self, keys, rules, *word):
        return after(keys, rules, ways(*word))[0]

    def test_no_word(self):
        for word in ((), (1,) * 13, (0,), (256,), (1, 0), (2 ** 53 - 1,)):
            self.assertEqual(self.ways(6, EXAMPLE, *word), [-1])

    def test_no_way(self):
        self.assertEqual(self.ways(6, EXAMPLE, 5), [0, 0])
        self.assertEqual(self.ways(6, [], 1), [0, 0])
        self.assertEqual(self.ways(2, [((1, 2), 1), ((2, 3), 2)], 1, 2, 3), [0, 0])

    def test_one_way(self):
        self.assertEqual(self.ways(6, EXAMPLE, 3), [0, 1])
        self.assertEqual(self.ways(1, [((1,) * 8, 1)], *[1] * 8), [0, 1])

    def test_where_strokes_end_is_counted_each(self):
        rules = [((1,), 1), ((2,), 2), ((3,), 4)]
        self.assertEqual(self.ways(3, rules, 1, 2), [0, 2])
        self.assertEqual(self.ways(3, rules, 1, 2, 3), [0, 4])
        self.assertEqual(self.ways(3, rules, 3, 2, 1), [0, 1])

    def test_two_ways_to_one_outline_are_counted_each(self):
        rules = [((1,), 1), ((1, 2), 3), ((2,), 2)]
        self.assertEqual(slow_ways(rules, (1, 2)).count((3,)), 2)
        self.assertEqual(self.ways(2, rules, 1, 2), [0, 3])

    def test_rules_of_the_same_sounds_are_counted_each(self):
        self.assertEqual(self.ways(5, [((1,), chord) for chord in range(1, 32)], 1), [0, 31])

    def test_ten_strokes_and_no_more(self):
        self.assertEqual(self.ways(1, ONE_KEY_ONLY, *range(1, 11)), [0, 1])
        self.assertEqual(self.ways(1, ONE_KEY_ONLY, *range(1, 12)), [0, 0])
        rules = [((sound,), 1 << sound - 1) for sound in range(1, 13)]
        # Eleven places where a stroke may end; of the choices at most nine ends are allowed.
        self.assertEqual(self.ways(12, rules, *range(1, 13)), [0, 2 ** 11 - 1 - 11])
        self.assertEqual(self.ways(12, rules, *range(1, 12)), [0, 2 ** 10 - 1])
        self.assertEqual(self.ways(12, rules, *range(1, 11)), [0, 2 ** 9])

    def test_many_but_not_too_many(self):
        rules = [((1,), 1 + 2 * number) for number in range(32)]
        self.assertEqual(self.ways(6, rules, *[1] * 10), [0, 32 ** 10])
        below = ways_of_low_high_and_wide(3, 13, 14, 11)
        self.assertTrue(LIMIT * 99 // 100 < below < LIMIT)
        self.assertEqual(self.ways(24, low_high_and_wide(3, 13, 14), *[1] * 11), [0, below])

    def test_too_many(self):
        above = ways_of_low_high_and_wide(2, 20, 2, 12)
        self.assertTrue(LIMIT < above < LIMIT * 101 // 100)
        self.assertEqual(self.ways(24, low_high_and_wide(2, 20, 2), *[1] * 12), [-2])
        self.assertEqual(self.ways(24, [((1,), 1 << key) for key in range(24)], *[1] * 12), [-2])

    def test_the_edge_itself(self):
        self.assertEqual(told_ways(LIMIT - 1), [0, LIMIT - 1])
        self.assertEqual(told_ways(LIMIT), [-2])
        self.assertEqual(told_ways(LIMIT + 1), [-2])

    def test_too_many_ways_leave_the_theory_as_it_was(self):
        told = after(24, low_high_and_wide(2, 20, 2), ways(*[1] * 12), ways(1))
        self.assertEqual(told, [[-2], [0, 24]])


if __name__ == "__main__":
    unittest.main()
