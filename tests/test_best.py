"""best: the first of a word's outlines."""

import unittest

from tests.helper import EXAMPLE, ONE_KEY_ONLY, after, best, every, rows_of


class Best(unittest.TestCase):
    def best(self, keys, rules, *word):
        return after(keys, rules, best(*word))[0]

    def test_no_word(self):
        for word in ((), (1,) * 13, (0,), (256,), (1, 0), (256, 1), (1, 2 ** 53 - 1), (1,) * 10000):
            self.assertEqual(self.best(6, EXAMPLE, *word), [-1], word[:13])

    def test_no_word_even_if_it_has_no_outline_either(self):
        self.assertEqual(self.best(6, [], *[9] * 13), [-1])

    def test_sounds_at_their_edges(self):
        rules = [((1,), 1), ((255,), 2)]
        self.assertEqual(self.best(2, rules, 1, 255), [0, 1, 3])
        self.assertEqual(self.best(2, rules, *[255] * 10), [0, 10] + [2] * 10)

    def test_no_outline(self):
        self.assertEqual(self.best(6, EXAMPLE, 5), [-3])
        self.assertEqual(self.best(6, EXAMPLE, 1, 5), [-3])
        self.assertEqual(self.best(6, EXAMPLE, 5, 1), [-3])
        self.assertEqual(self.best(6, EXAMPLE, 1, 5, 1), [-3])

    def test_rules_that_overlap_but_do_not_part_the_word(self):
        rules = [((1, 2), 1), ((2, 3), 2)]
        self.assertEqual(self.best(2, rules, 1, 2, 3), [-3])
        self.assertEqual(self.best(2, rules, 1), [-3])
        self.assertEqual(self.best(2, rules, 1, 2, 2, 3), [0, 1, 3])

    def test_ten_strokes_and_no_more(self):
        self.assertEqual(self.best(1, ONE_KEY_ONLY, *range(1, 11)), [0, 10] + [1] * 10)
        self.assertEqual(self.best(1, ONE_KEY_ONLY, *range(1, 12)), [-3])
        self.assertEqual(self.best(1, ONE_KEY_ONLY, *range(1, 13)), [-3])

    def test_twelve_sounds_in_ten_strokes(self):
        rules = sorted(ONE_KEY_ONLY + [((6,), 2), ((12,), 2)])
        self.assertEqual(self.best(2, rules, *range(1, 13)), [0, 10, 1, 1, 1, 1, 3, 1, 1, 1, 1, 3])

    def test_keys_come_behind_those_of_the_rule_before(self):
        rules = [((1,), 1), ((2,), 2)]
        self.assertEqual(self.best(2, rules, 1, 2), [0, 1, 3])
        self.assertEqual(self.best(2, rules, 2, 1), [0, 2, 2, 1])

    def test_keys_that_only_begin_behind_are_not_enough(self):
        rules = [((1,), 5), ((2,), 2), ((3,), 10), ((4,), 8)]
        self.assertEqual(self.best(4, rules, 1, 2), [0, 2, 5, 2])
        self.assertEqual(self.best(4, rules, 1, 3), [0, 2, 5, 10])
        self.assertEqual(self.best(4, rules, 1, 4), [0, 1, 13])

    def test_a_key_does_not_count_twice(self):
        self.assertEqual(self.best(2, [((1,), 1), ((2,), 3)], 1, 2), [0, 2, 1, 3])

    def test_fewer_strokes_go_ahead_of_fewer_keys(self):
        rules = [((1,), 2), ((1, 1), 255)]
        self.assertEqual(self.best(8, rules, 1, 1), [0, 1, 255])

    def test_fewer_keys_go_ahead_of_smaller_chords(self):
        rules = [((1,), 3), ((1,), 128)]
        self.assertEqual(self.best(8, rules, 1), [0, 1, 128])

    def test_keys_are_counted_over_all_strokes(self):
        # 2 31 is ahead of 7 2 by its chords, but has more keys in all.
        rules = [((1,), 2), ((1, 2), 7), ((2, 3), 31), ((3,), 2)]
        self.assertEqual(self.best(5, rules, 1, 2, 3), [0, 2, 7, 2])

    def test_ties_are_decided_by_the_first_chord_that_differs(self):
        rules = [((1,), 2), ((1,), 4), ((2,), 1), ((2,), 2)]
        self.assertEqual(self.best(3, rules, 1, 2), [0, 2, 2, 1])
        # 4 5 and 12 4: three keys each; the first chords decide, not the last ones.
        rules = [((1,), 4), ((2,), 1), ((2,), 8), ((3,), 4)]
        told = after(4, rules, best(1, 2, 3), every(2, 1, 2, 3))
        self.assertEqual(told[0], [0, 2, 4, 5])
        self.assertEqual(rows_of(told[1]), [[4, 5], [12, 4]])

    def test_the_best_is_alls_first(self):
        for word in ((1,), (2, 3), (3, 1, 2), (1, 2, 3, 2, 1), (4, 3, 2, 1, 2, 3, 4)):
            told = after(6, EXAMPLE, best(*word), every(1, *word), every(16, *word))
            self.assertEqual(rows_of(told[1]), [told[0][2:]])
            self.assertEqual(rows_of(told[2])[0], told[0][2:])


if __name__ == "__main__":
    unittest.main()
