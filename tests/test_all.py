"""all: a word's first outlines, in order, each once."""

import unittest

from tests.helper import EXAMPLE, ONE_KEY_ONLY, after, every, outline_order, rows_of, slow_outlines, ways


def one_sound(chords):
    return [((1,), chord) for chord in chords]


class All(unittest.TestCase):
    def every(self, keys, rules, most, *word):
        return after(keys, rules, every(most, *word))[0]

    def test_no_word(self):
        for word in ((), (1,) * 13, (0,), (256,), (1, 0), (2 ** 53 - 1,)):
            for most in (0, 1, 16):
                self.assertEqual(self.every(6, EXAMPLE, most, *word), [-1])

    def test_most(self):
        self.assertEqual(self.every(6, EXAMPLE, 17, 1), [-1])
        self.assertEqual(self.every(6, EXAMPLE, 2 ** 53 - 1, 1), [-1])
        self.assertEqual(self.every(6, EXAMPLE, 17, 5), [-1])
        self.assertEqual(self.every(6, EXAMPLE, 0, 1), [0, 0])
        self.assertEqual(self.every(6, EXAMPLE, 1, 1), [0, 1, 1, 1])
        self.assertEqual(self.every(6, EXAMPLE, 2, 1), [0, 2, 1, 1, 1, 32])
        self.assertEqual(self.every(6, EXAMPLE, 16, 1), [0, 2, 1, 1, 1, 32])

    def test_no_outline_no_rows(self):
        for most in (0, 1, 16):
            self.assertEqual(self.every(6, EXAMPLE, most, 5), [0, 0])
            self.assertEqual(self.every(1, ONE_KEY_ONLY, most, *range(1, 12)), [0, 0])

    def test_fewer_than_sixteen_just_sixteen_and_more(self):
        in_order = sorted(range(1, 32), key=lambda chord: outline_order([chord]))
        for how_many in (15, 16, 17, 31):
            rules = one_sound(range(1, how_many + 1))
            told = rows_of(self.every(5, rules, 16, 1))
            self.assertEqual(told, [[chord] for chord in in_order if chord <= how_many][:16])
            self.assertEqual(len(told), min(16, how_many))

    def test_each_most_is_a_beginning_of_the_first_sixteen(self):
        whole = rows_of(self.every(6, EXAMPLE, 16, 1, 2, 3, 2, 1))
        self.assertEqual(len(whole), 16)
        for most in range(17):
            self.assertEqual(rows_of(self.every(6, EXAMPLE, most, 1, 2, 3, 2, 1)), whole[:most])

    def test_two_ways_to_one_stroke_are_told_once(self):
        rules = [((1,), 1), ((1, 2), 3), ((2,), 2)]
        told = after(2, rules, every(16, 1, 2), ways(1, 2))
        self.assertEqual(rows_of(told[0]), [[3], [1, 2]])
        self.assertEqual(told[1], [0, 3])

    def test_two_ways_to_one_outline_with_sounds_parted_otherwise_are_told_once(self):
        # 1 and 1 1 are the same chord: where the strokes part the word is not seen in the outline.
        rules = [((1,), 1), ((1, 1), 1)]
        told = after(1, rules, every(16, 1, 1, 1), ways(1, 1, 1))
        self.assertEqual(rows_of(told[0]), [[1, 1], [1, 1, 1]])
        self.assertEqual(told[1], [0, 3])

    def test_outlines_that_come_by_many_ways_crowd_out_no_others(self):
        rules = [((1,) * many, 1) for many in range(1, 7)] + [((1,) * 8, 2)]
        word = (1,) * 12
        self.assertEqual(rows_of(self.every(2, rules, 16, *word)), slow_outlines(rules, word)[:16])

    def test_strokes_are_ten_at_most(self):
        rules = [((1,), 1), ((1, 1), 1)]
        told = rows_of(self.every(1, rules, 16, *[1] * 12))
        self.assertEqual(told, [[1] * strokes for strokes in range(6, 11)])

    def test_outlines_of_more_strokes_fill_up(self):
        rules = [((1,), 1), ((1,), 2), ((2,), 4)]
        told = rows_of(self.every(3, rules, 16, 1, 1, 2))
        self.assertEqual(told, [[7], [1, 5], [1, 6], [2, 5], [2, 6], [3, 4],
                                [1, 1, 4], [1, 2, 4], [2, 1, 4], [2, 2, 4]])
        self.assertEqual(rows_of(self.every(3, rules, 8, 1, 1, 2)), told[:8])


if __name__ == "__main__":
    unittest.main()
