"""said: the words that an outline may say, in order, each once."""

import unittest

from tests.helper import EXAMPLE, after, asked, begin, every, rows_of, said, slow_said, slow_ways

SOUNDS_APART = [((1,), 1), ((2,), 2), ((3,), 4)]


def one_key(*rows):
    """Rules that all have the first key alone."""
    return sorted((tuple(sounds), 1) for sounds in rows)


class Said(unittest.TestCase):
    def said(self, keys, rules, *outline, most=16):
        return rows_of(after(keys, rules, said(most, *outline))[0])

    def refused(self, keys, rules, most, *outline):
        self.assertEqual(after(keys, rules, said(most, *outline)), [[-1]], (most, outline[:5]))


class Refused(Said):
    def test_before_a_begin(self):
        self.assertEqual(asked(said(16, 1), said(0, 1), said(16)), [[-9]] * 3)

    def test_after_a_begin_that_was_refused(self):
        self.assertEqual(asked(begin(25, EXAMPLE), said(16, 10)), [[-1], [-9]])
        self.assertEqual(asked(begin(6, EXAMPLE[::-1]), said(16, 10)), [[-1], [-9]])

    def test_no_chords(self):
        self.refused(6, EXAMPLE, 16)
        self.refused(6, EXAMPLE, 0)

    def test_more_than_three_chords(self):
        self.refused(6, EXAMPLE, 16, 1, 1, 1, 1)
        self.refused(6, EXAMPLE, 0, *[1] * 10)
        self.refused(6, EXAMPLE, 16, *[1] * 10000)

    def test_a_chord_without_a_key(self):
        for outline in ((0,), (0, 1), (1, 0), (1, 0, 1), (1, 1, 0)):
            self.refused(6, EXAMPLE, 16, *outline)

    def test_a_chord_with_a_key_past_the_last(self):
        for outline in ((64,), (65,), (1, 64), (1, 1, 127), (2 ** 53 - 1,)):
            self.refused(6, EXAMPLE, 16, *outline)
        self.refused(1, [((1,), 1)], 16, 2)
        self.refused(24, [((1,), 1)], 16, 1 << 24)

    def test_most_above_sixteen(self):
        self.refused(6, EXAMPLE, 17, 10)
        self.refused(6, EXAMPLE, 2 ** 53 - 1, 10)
        self.refused(6, EXAMPLE, 17, 4, 4, 2)

    def test_the_keys_are_those_of_the_theory_that_stands(self):
        told = asked(begin(6, EXAMPLE), said(16, 32), begin(1, [((7,), 1)]), said(16, 32), said(16, 1))
        self.assertEqual(told, [[0], [0, 1, 1, 1], [0], [-1], [0, 1, 1, 7]])

    def test_a_refusal_changes_nothing(self):
        told = after(6, EXAMPLE, said(16), said(17, 10), said(16, 64), said(16, 10))
        self.assertEqual(told, [[-1], [-1], [-1], [0, 1, 2, 2, 3]])


class Told(Said):
    def test_one_two_and_three_chords(self):
        self.assertEqual(self.said(6, EXAMPLE, 10), [[2, 3]])
        self.assertEqual(self.said(6, EXAMPLE, 32), [[1]])
        self.assertEqual(self.said(6, EXAMPLE, 8, 3), [[3, 1, 2]])
        self.assertEqual(self.said(6, EXAMPLE, 4, 10, 1), [[4, 2, 3, 1]])

    def test_the_strokes_say_their_parts_in_their_order(self):
        self.assertEqual(self.said(3, SOUNDS_APART, 1, 2, 4), [[1, 2, 3]])
        self.assertEqual(self.said(3, SOUNDS_APART, 4, 2, 1), [[3, 2, 1]])
        self.assertEqual(self.said(3, SOUNDS_APART, 2, 5), [[2, 1, 3]])
        self.assertEqual(self.said(3, SOUNDS_APART, 7, 7, 7), [[1, 2, 3] * 3])

    def test_most(self):
        rules = one_key([1], [2], [3])
        for most in (0, 1, 2, 3, 16):
            self.assertEqual(self.said(1, rules, 1, most=most), [[1], [2], [3]][:most])

    def test_each_most_is_a_beginning_of_the_first_sixteen(self):
        rules = one_key([1], [1, 1], [1, 2], [2], [3, 1])
        whole = self.said(1, rules, 1, 1, 1)
        self.assertEqual(len(whole), 16)
        for most in range(17):
            self.assertEqual(self.said(1, rules, 1, 1, 1, most=most), whole[:most])

    def test_an_outline_that_says_no_word(self):
        self.assertEqual(after(6, [], said(16, 1)), [[0, 0]])
        self.assertEqual(after(6, EXAMPLE, said(16, 48)), [[0, 1, 2, 2, 1]])
        self.assertEqual(after(6, SOUNDS_APART, said(16, 8)), [[0, 0]])
        self.assertEqual(after(6, SOUNDS_APART, said(16, 1, 8)), [[0, 0]])
        self.assertEqual(after(6, SOUNDS_APART, said(16, 8, 1)), [[0, 0]])
        self.assertEqual(after(6, SOUNDS_APART, said(0, 8)), [[0, 0]])

    def test_all_keys_of_a_stroke_are_wanted(self):
        self.assertEqual(self.said(3, [((1,), 1), ((2,), 4)], 3), [])
        self.assertEqual(self.said(3, [((1,), 1), ((2,), 4)], 7), [])
        self.assertEqual(self.said(3, [((1,), 1), ((2,), 4)], 6), [])
        self.assertEqual(self.said(3, [((1,), 1), ((2,), 4)], 5), [[1, 2]])

    def test_a_rule_has_no_keys_besides_the_strokes(self):
        self.assertEqual(self.said(3, [((1,), 3)], 1), [])
        self.assertEqual(self.said(3, [((1,), 3)], 2), [])
        self.assertEqual(self.said(3, [((1,), 3)], 1, 2), [])

    def test_keys_come_behind_those_of_the_rule_before(self):
        # 3 says 1 2 and never 2 1, in whatever order the rules stand.
        self.assertEqual(self.said(2, [((1,), 1), ((2,), 2)], 3), [[1, 2]])
        self.assertEqual(self.said(2, [((1,), 2), ((2,), 1)], 3), [[2, 1]])

    def test_keys_that_lie_between_those_of_another_rule(self):
        self.assertEqual(self.said(3, [((1,), 5), ((2,), 2)], 7), [])
        self.assertEqual(self.said(4, [((1,), 5), ((2,), 10)], 15), [])
        self.assertEqual(self.said(4, [((1,), 9), ((2,), 6)], 15), [])
        self.assertEqual(self.said(4, [((1,), 5), ((2,), 8)], 13), [[1, 2]])

    def test_a_key_is_written_once(self):
        self.assertEqual(self.said(2, [((1,), 1), ((2,), 1), ((3,), 3)], 1), [[1], [2]])
        self.assertEqual(self.said(2, [((1,), 1), ((2,), 1), ((3,), 3)], 3), [[3]])

    def test_keys_at_their_edges(self):
        top = 1 << 23
        self.assertEqual(self.said(24, [((1,), top)], top, top, top), [[1, 1, 1]])
        self.assertEqual(self.said(24, [((1,), 1), ((255,), (1 << 24) - 2)], (1 << 24) - 1), [[1, 255]])
        self.assertEqual(self.said(24, [((1,), (1 << 24) - 1)], (1 << 24) - 1), [[1]])

    def test_twelve_keys_write_twelve_sounds(self):
        rules = [((sound,), 1 << 2 * (sound - 1)) for sound in range(1, 13)]
        self.assertEqual(self.said(24, rules, sum(chord for sounds, chord in rules)), [list(range(1, 13))])

    def test_twelve_sounds_and_thirteen(self):
        rules = [((1,) * 8, 1), ((2,) * 4, 2), ((3,) * 5, 4)]
        self.assertEqual(self.said(3, rules, 3), [[1] * 8 + [2] * 4])
        self.assertEqual(self.said(3, rules, 5), [])
        self.assertEqual(self.said(3, rules, 1, 2), [[1] * 8 + [2] * 4])
        self.assertEqual(self.said(3, rules, 1, 4), [])
        self.assertEqual(self.said(3, rules, 2, 2, 2), [[2] * 12])
        self.assertEqual(self.said(3, rules, 2, 2, 4), [])

    def test_words_of_each_length_up_to_twelve(self):
        rules = one_key(*[[1] * length for length in range(1, 9)])
        self.assertEqual(self.said(1, rules, 1, 1), [[1] * length for length in range(2, 13)])
        self.assertEqual(self.said(1, rules, 1, 1, 1), [[1] * length for length in range(3, 13)])

    def test_beginnings_that_grow_too_long_crowd_out_no_words(self):
        long_ones = [[1] * 7 + [last] for last in range(1, 18)]
        rules = sorted(one_key([2] * 4, *long_ones) + [((3,) * 8, 2)])
        self.assertEqual(self.said(2, rules, 1, 2), [[2] * 4 + [3] * 8])
        self.assertEqual(self.said(2, rules, 3), [[2] * 4 + [3] * 8])

    def test_fewer_than_sixteen_just_sixteen_and_more(self):
        for how_many in (1, 15, 16, 17, 32):
            rules = one_key(*[[sound] for sound in range(1, how_many + 1)])
            told = self.said(1, rules, 1)
            self.assertEqual(told, [[sound] for sound in range(1, min(16, how_many) + 1)])
        rules = one_key([1], [2], [3], [4])
        self.assertEqual(self.said(1, rules, 1, 1), [[one, two] for one in range(1, 5) for two in range(1, 5)])

    def test_a_word_said_in_several_ways_is_told_once(self):
        rules = [((1,), 1), ((1, 2), 3), ((2,), 2)]
        self.assertEqual(slow_ways(rules, (1, 2)).count((3,)), 2)
        self.assertEqual(self.said(2, rules, 3), [[1, 2]])

    def test_a_word_parted_otherwise_among_the_strokes_is_told_once(self):
        rules = one_key([1], [1, 1])
        self.assertEqual(self.said(1, rules, 1, 1), [[1, 1], [1, 1, 1], [1, 1, 1, 1]])
        self.assertEqual(self.said(1, rules, 1, 1, 1), [[1] * length for length in range(3, 7)])

    def test_words_said_in_many_ways_crowd_out_no_others(self):
        rules = sorted(one_key(*[[1] * length for length in range(1, 5)]) + [((2,), 1), ((2, 1), 1)])
        told = self.said(1, rules, 1, 1, 1)
        self.assertEqual(told, slow_said(rules, (1, 1, 1))[:16])
        self.assertEqual(len(told), 16)

    def test_a_beginning_comes_ahead_of_what_it_begins(self):
        rules = one_key([1], [1, 1], [1, 1, 2], [1, 2], [2])
        self.assertEqual(self.said(1, rules, 1), [[1], [1, 1], [1, 1, 2], [1, 2], [2]])

    def test_sounds_go_ahead_of_lengths(self):
        rules = [((1, 1, 1), 2), ((1, 2), 1), ((2,), 1), ((3,), 2)]
        self.assertEqual(self.said(2, rules, 1, 2), [[1, 2, 1, 1, 1], [1, 2, 3], [2, 1, 1, 1], [2, 3]])

    def test_sounds_are_compared_as_numbers(self):
        rules = one_key([9], [10], [99], [100], [255])
        self.assertEqual(self.said(1, rules, 1), [[9], [10], [99], [100], [255]])

    def test_words_not_beginnings_are_put_in_order(self):
        # 1 is ahead of 1 1, but 1 9 comes behind 1 1 9.
        rules = [((1,), 1), ((1, 1), 1), ((9,), 2)]
        self.assertEqual(self.said(2, rules, 1, 2), [[1, 1, 9], [1, 9]])
        self.assertEqual(self.said(2, rules, 3), [[1, 1, 9], [1, 9]])
        self.assertEqual(self.said(2, rules, 1, 2, most=1), [[1, 1, 9]])


class WithAll(Said):
    def test_the_examples_of_all_are_told_back(self):
        for word in ([1], [2, 3], [3, 1, 2], [1, 2, 3, 2, 1], [4, 4]):
            outlines = rows_of(after(6, EXAMPLE, every(16, *word))[0])
            self.assertTrue(outlines)
            for outline in outlines:
                if len(outline) <= 3:
                    self.assertIn(word, self.said(6, EXAMPLE, *outline))


if __name__ == "__main__":
    unittest.main()
