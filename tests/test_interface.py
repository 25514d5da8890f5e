"""How calls are handed in and answers given back, and the largest that may come."""

import time
import unittest

from chordsounds.outlines import answers
from tests.helper import EXAMPLE, after, asked, begin, best, clash, every, give, line, parted, rows_of, said
from tests.helper import slow_clashes, slow_said, ways

SOON = 20
FULL = (1 << 24) - 1
ALL_SEVEN = line(
    best(1), said(16, 10), give((1,)), clash((10,), (10,)), begin(6, EXAMPLE), best(3, 1, 2), every(16, 3, 1, 2),
    ways(3, 1, 2), said(16, 10, 3), give((1,), (1,), (3, 1, 2), (5,), (1,)), clash((8,), (8, 8), ()), clash((0,)),
    begin(0, EXAMPLE), said(17, 10), give(()), best(5), give(), clash(),
)


def dense_rules():
    """Two sounds, each by every other key alone and by some more chords: 24 keys, 32 rules."""
    rules = [((1 + key % 2,), 1 << key) for key in range(24)]
    return sorted(rules + [((1, 2), 3 << 2 * number) for number in range(8)])


def dense_then_forced_rules():
    """Sound 1 by each key and more; sound 2 by the first key alone, so that each is a stroke of its own."""
    return [((1,), chord) for chord in sorted([1 << key for key in range(24)] + [3 << key for key in range(7)])] \
        + [((2,), 1)]


class Form(unittest.TestCase):
    def test_answers_one_behind_another_with_their_counts(self):
        calls = line(best(1), begin(6, EXAMPLE), best(3, 1, 2), every(2, 3, 1, 2), ways(2, 3), best(), best(5),
                     said(16, 10, 3), said(16, 10, 32, 16), give((1,), (5,), (3, 1, 2)), clash((8,), (), (8, 8)),
                     give(), clash())
        self.assertEqual(answers(calls), [
            1, -9,
            1, 0,
            4, 0, 2, 8, 3,
            8, 0, 2, 2, 8, 3, 2, 8, 17,
            2, 0, 3,
            1, -1,
            1, -3,
            7, 0, 1, 4, 2, 3, 1, 2,
            7, 0, 1, 4, 2, 3, 1, 2,
            8, 0, 3, 1, 1, 0, 2, 8, 3,
            6, 0, 1, 3, 2, 0, 0,
            2, 0, 0,
            2, 0, 0,
        ])

    def test_a_list_of_plain_whole_numbers(self):
        told = answers(line(ALL_SEVEN, ways(5), every(0, 1)))
        self.assertIs(type(told), list)
        self.assertEqual({type(number) for number in told}, {int})

    def test_what_is_handed_in_is_as_it_was(self):
        calls = list(ALL_SEVEN)
        answers(calls)
        self.assertEqual(calls, ALL_SEVEN)

    def test_nothing_is_kept_from_one_time_to_the_next(self):
        calls = list(ALL_SEVEN)
        first = answers(calls)
        first_again = list(first)
        second = answers(calls)
        self.assertEqual(second, first)
        second.append(7)
        self.assertEqual(first, first_again)
        self.assertEqual(answers(calls), first)
        self.assertEqual(asked(best(1), said(1, 1), give((1,))), [[-9]] * 3)


class Largest(unittest.TestCase):
    def timed(self, calls):
        self.assertLessEqual(len(calls), 19000)
        started = time.monotonic()
        told = parted(answers(calls))
        self.assertLess(time.monotonic() - started, SOON)
        return told

    def words(self):
        return [tuple(1 + (number * 37 >> place & 1) for place in range(12)) for number in range(199)]

    def test_two_hundred_calls_of_each_kind(self):
        for rules in (dense_rules(), dense_then_forced_rules()):
            for call in (best, lambda *word: every(16, *word), ways):
                told = self.timed(line(begin(24, rules), *[call(*word) for word in self.words()]))
                self.assertEqual(len(told), 200)
                self.assertEqual(told[0], [0])

    def test_the_slowest_word_two_hundred_times(self):
        word = (1,) * 6 + (2,) * 6
        told = self.timed(line(begin(24, dense_then_forced_rules()), *[every(16, *word)] * 199))
        self.assertEqual(len(rows_of(told[1])), 16)
        self.assertTrue(all(answer == told[1] for answer in told[1:]))

    def test_one_stroke_of_twelve_sounds_out_of_millions(self):
        rules = [((1,), 1 << key) for key in range(24)]
        told = self.timed(line(begin(24, rules), best(*[1] * 12), every(16, *[1] * 12)))
        self.assertEqual(told[1], [0, 1, (1 << 12) - 1])
        chords = [outline[0] for outline in rows_of(told[2])]
        expected = [chord for chord in range(1 << 14) if bin(chord).count("1") == 12][:16]
        self.assertEqual(chords, expected)

    def test_a_dead_end_behind_many_outlines(self):
        told = self.timed(line(begin(24, dense_then_forced_rules()), *[every(16, *[1] * 11, 3)] * 199))
        self.assertEqual(told[1:], [[0, 0]] * 199)

    def test_outlines_of_three_chords_of_24_keys_that_say_no_word(self):
        # Each key writes a sound, so a stroke says 24: too long for a word.
        told = self.timed(line(begin(24, dense_rules()), *[said(16, FULL, FULL, FULL)] * 199))
        self.assertEqual(told[1:], [[0, 0]] * 199)

    def test_outlines_of_three_chords_of_24_keys_that_say_very_many(self):
        # Four rules a stroke, each of one of eight sounds: 8 ** 12 words.
        rules = sorted(((sound,), 63 << 6 * part) for part in range(4) for sound in range(1, 9))
        told = self.timed(line(begin(24, rules), *[said(16, FULL, FULL, FULL)] * 199))
        expected = [[1] * 10 + [one, two] for one in (1, 2) for two in range(1, 9)]
        self.assertEqual(rows_of(told[1]), expected)
        self.assertTrue(all(answer == told[1] for answer in told[1:]))

    def test_outlines_whose_words_are_of_all_lengths(self):
        rules = sorted(((1 + length % 2,) * length, 255 << 8 * part) for part in range(3) for length in range(1, 9))
        outline = (FULL, FULL, 255)
        told = self.timed(line(begin(24, rules), *[said(16, *outline)] * 199))
        self.assertEqual(rows_of(told[1]), slow_said(rules, outline)[:16])
        self.assertTrue(all(answer == told[1] for answer in told[1:]))

    def test_twenty_four_words_of_twelve_sounds(self):
        for rules in (dense_rules(), dense_then_forced_rules()):
            words = self.words()
            gives = [give(*[words[(start + number) % 199] for number in range(24)]) for start in range(59)]
            told = self.timed(line(begin(24, rules), *gives))
            for answer in told[1:]:
                given = rows_of(answer)
                self.assertEqual(len(given), 24)
                self.assertEqual(asked(clash(*given)), [[0, 0]])

    def test_twenty_four_words_with_the_same_outlines(self):
        # All sounds but the first are written alike, so from the 17th on none is left of the first 16.
        rules = sorted([((1,), 1 << key) for key in range(24)] + [((sound,), 1) for sound in range(2, 10)])
        words = [(1,) * 4 + tuple(2 + (number >> place & 1) for place in range(8)) for number in range(24)]
        told = self.timed(line(begin(24, rules), *[give(*words)] * 59))
        given = rows_of(told[1])
        self.assertEqual(given[:16], rows_of(after(24, rules, every(16, *words[0]))[0]))
        self.assertEqual(given[16:], [[]] * 8)
        self.assertTrue(all(answer == told[1] for answer in told[1:]))

    def test_two_hundred_gives(self):
        rules = [((1,), chord) for chord in range(1, 33)]
        told = self.timed(line(begin(24, rules), *[give(*[(1,)] * 24)] * 199))
        self.assertEqual(rows_of(told[1])[16:], [[]] * 8)
        self.assertTrue(all(answer == told[1] for answer in told[1:]))

    def test_forty_outlines_of_ten_chords(self):
        outlines = [tuple(1 + (number % 4 >> place & 1) for place in range(10)) for number in range(40)]
        told = self.timed(line(*[clash(*outlines)] * 42))
        self.assertEqual(rows_of(told[0]), slow_clashes(outlines))
        self.assertEqual(len(rows_of(told[0])), 4 * 45)

    def test_two_hundred_calls_with_the_most_clashes(self):
        outlines = [(1,)] * 27 + [(1, 1)] * 13
        told = self.timed(line(*[clash(*outlines)] * 200))
        self.assertEqual(told[0][1], 27 * 26 // 2 + 13 * 12 // 2 + 13 * 27 * 27)
        self.assertTrue(all(answer == told[0] for answer in told))

    def test_two_hundred_begins(self):
        rules = [((255,), chord) for chord in range(1, 31)]
        told = self.timed(line(*[begin(24, rules)] * 200))
        self.assertEqual(told, [[0]] * 200)

    def test_rows_of_ten_thousand_numbers(self):
        big = 2 ** 53 - 1
        most = [number for _ in range(5000) for number in (1, 0)]
        told = self.timed(line(begin(6, EXAMPLE), [0, 24, 10000] + most, best(3)))
        self.assertEqual(told, [[0], [-1], [0, 1, 8]])
        told = self.timed(line(begin(6, EXAMPLE), begin(24, [((1,) * 9998, 1)]), best(3)))
        self.assertEqual(told, [[0], [-1], [0, 1, 8]])
        for call in (best, lambda *word: every(16, *word), ways):
            self.assertEqual(after(6, EXAMPLE, call(*[1] * 10000), call(*[big] * 8000)), [[-1], [-1]])
        told = self.timed(line(begin(6, EXAMPLE), said(16, *[1] * 10000), said(16, *[big] * 8000), said(16, 10)))
        self.assertEqual(told, [[0], [-1], [-1], [0, 1, 2, 2, 3]])
        for call in (give, clash):
            told = self.timed(line(begin(6, EXAMPLE), call(*[()] * 10000), call(*[(1,)] * 4000)))
            self.assertEqual(told, [[0], [-1], [-1]])
            told = self.timed(line(begin(6, EXAMPLE), call([big] * 9999), call([1] * 8000)))
            self.assertEqual(told, [[0], [-1], [-1]])


if __name__ == "__main__":
    unittest.main()
