"""How calls are handed in and answers given back, and the largest that may come."""

import time
import unittest

from chordsounds.outlines import answers
from tests.helper import EXAMPLE, after, begin, best, every, line, parted, rows_of, ways

SOON = 20


def dense_rules():
    """Two sounds, each by every other key alone and by some more chords: 24 keys, 32 rules."""
    rules = [((1 + key % 2,), 1 << key) for key in range(24)]
    return sorted(rules + [((1, 2), 3 << 2 * number) for number in range(8)])


def dense_then_forced_rules():
    """Sound 1 by each key and more; sound 2 by the first key alone, so that each is a stroke of its own."""
    return [((1,), chord) for chord in sorted([1 << key for key in range(24)] + [3 << key for key in range(7)])] \
        + [((2,), 1)]


class Form(unittest.TestCase):
    def test_answers_one_behind_another_with_their_counts(self):
        calls = line(best(1), begin(6, EXAMPLE), best(3, 1, 2), every(2, 3, 1, 2), ways(2, 3), best(), best(5))
        self.assertEqual(answers(calls), [
            1, -9,
            1, 0,
            4, 0, 2, 8, 3,
            8, 0, 2, 2, 8, 3, 2, 8, 17,
            2, 0, 3,
            1, -1,
            1, -3,
        ])

    def test_a_list_of_plain_whole_numbers(self):
        told = answers(line(begin(6, EXAMPLE), best(1, 2), every(16, 1, 2), ways(1, 2), ways(5), every(0, 1)))
        self.assertIs(type(told), list)
        self.assertEqual({type(number) for number in told}, {int})

    def test_what_is_handed_in_is_as_it_was(self):
        calls = line(begin(6, EXAMPLE), best(3, 1, 2), every(16, 3, 1, 2), ways(3, 1, 2), begin(0, EXAMPLE))
        before = list(calls)
        answers(calls)
        self.assertEqual(calls, before)

    def test_nothing_is_kept_from_one_time_to_the_next(self):
        calls = line(best(1), begin(6, EXAMPLE), best(3, 1, 2), every(16, 3, 1, 2), ways(3, 1, 2))
        first = answers(calls)
        first_again = list(first)
        second = answers(calls)
        self.assertEqual(second, first)
        second.append(7)
        self.assertEqual(first, first_again)
        self.assertEqual(answers(calls), first)
        self.assertEqual(answers(best(1)), [1, -9])


class Largest(unittest.TestCase):
    def timed(self, calls):
        self.assertLessEqual(len(calls), 19000)
        started = time.monotonic()
        told = parted(answers(calls))
        self.assertLess(time.monotonic() - started, SOON)
        return told

    def words(self):
        return [tuple(1 + (number * 37 >> place & 1) for place in range(12)) for number in range(199)]

    def test_two_hundred_calls_of_each_kind(self):
        for rules in (dense_rules(), dense_then_forced_rules()):
            for call in (best, lambda *word: every(16, *word), ways):
                told = self.timed(line(begin(24, rules), *[call(*word) for word in self.words()]))
                self.assertEqual(len(told), 200)
                self.assertEqual(told[0], [0])

    def test_the_slowest_word_two_hundred_times(self):
        word = (1,) * 6 + (2,) * 6
        told = self.timed(line(begin(24, dense_then_forced_rules()), *[every(16, *word)] * 199))
        self.assertEqual(len(rows_of(told[1])), 16)
        self.assertTrue(all(answer == told[1] for answer in told[1:]))

    def test_one_stroke_of_twelve_sounds_out_of_millions(self):
        rules = [((1,), 1 << key) for key in range(24)]
        told = self.timed(line(begin(24, rules), best(*[1] * 12), every(16, *[1] * 12)))
        self.assertEqual(told[1], [0, 1, (1 << 12) - 1])
        chords = [outline[0] for outline in rows_of(told[2])]
        expected = [chord for chord in range(1 << 14) if bin(chord).count("1") == 12][:16]
        self.assertEqual(chords, expected)

    def test_a_dead_end_behind_many_outlines(self):
        told = self.timed(line(begin(24, dense_then_forced_rules()), *[every(16, *[1] * 11, 3)] * 199))
        self.assertEqual(told[1:], [[0, 0]] * 199)

    def test_two_hundred_begins(self):
        rules = [((255,), chord) for chord in range(1, 31)]
        told = self.timed(line(*[begin(24, rules)] * 200))
        self.assertEqual(told, [[0]] * 200)

    def test_rows_of_ten_thousand_numbers(self):
        big = 2 ** 53 - 1
        most = [number for _ in range(5000) for number in (1, 0)]
        told = self.timed(line(begin(6, EXAMPLE), [0, 24, 10000] + most, best(3)))
        self.assertEqual(told, [[0], [-1], [0, 1, 8]])
        told = self.timed(line(begin(6, EXAMPLE), begin(24, [((1,) * 9998, 1)]), best(3)))
        self.assertEqual(told, [[0], [-1], [0, 1, 8]])
        for call in (best, lambda *word: every(16, *word), ways):
            self.assertEqual(after(6, EXAMPLE, call(*[1] * 10000), call(*[big] * 8000)), [[-1], [-1]])


if __name__ == "__main__":
    unittest.main()
