"""begin: what is taken, what is refused, and what stands after it."""

import unittest

from tests.helper import after, asked, begin, best, every, give, said, ways

ONE = [((1,), 1)]


class Taken(unittest.TestCase):
    def taken(self, keys, rules):
        self.assertEqual(asked(begin(keys, rules)), [[0]])

    def test_ordinary(self):
        self.taken(1, ONE)
        self.taken(24, ONE)

    def test_no_rules_at_all(self):
        self.taken(5, [])
        self.assertEqual(after(5, [], best(1), every(16, 1), ways(1)), [[-3], [0, 0], [0, 0]])

    def test_sounds_and_chords_at_their_edges(self):
        self.taken(24, [((1,), 1), ((255,), 1 << 23), ((255,), (1 << 24) - 1)])
        self.taken(1, [((1, 2, 3, 4, 5, 6, 7, 8), 1)])

    def test_a_beginning_ahead_of_what_it_begins(self):
        self.taken(3, [((1,), 7), ((1, 1), 1), ((1, 1, 1), 1), ((1, 2), 1), ((2,), 1)])

    def test_same_chord_of_other_sounds_and_same_sounds_of_other_chords(self):
        self.taken(2, [((1,), 1), ((1,), 2), ((1,), 3), ((2,), 1)])

    def test_the_largest_theory(self):
        top = (1 << 24) - 1
        rules = [((255,) * 8, top - number) for number in reversed(range(32))]
        self.taken(24, rules)
        # Of top - 31 to top, the first has the fewest keys: the five lowest are not among them.
        self.assertEqual(after(24, rules, best(*[255] * 8)), [[0, 1, top - 31]])


class Refused(unittest.TestCase):
    def refused(self, keys, rules):
        self.assertEqual(asked(begin(keys, rules)), [[-1]])

    def test_keys(self):
        for keys in (0, 25, 53, 2 ** 53 - 1):
            self.refused(keys, [])
            self.refused(keys, ONE)

    def test_too_many_rules(self):
        rules = [((1,), chord) for chord in range(1, 34)]
        self.refused(24, rules)
        self.assertEqual(asked(begin(24, rules[:32])), [[0]])

    def test_rule_without_sounds_or_with_nine(self):
        self.refused(4, [((), 1)])
        self.refused(4, [((), 1), ((1,), 1)])
        self.refused(4, [((1,) * 9, 1)])

    def test_sounds_that_are_none(self):
        for sound in (0, 256, 2 ** 53 - 1):
            self.refused(4, [((sound,), 1)])
        self.refused(4, [((1, 0), 1)])
        self.refused(4, [((1, 256), 1)])

    def test_chord_without_a_key(self):
        self.refused(4, [((1,), 0)])

    def test_chord_with_a_key_past_the_last(self):
        self.refused(4, [((1,), 16)])
        self.refused(4, [((1,), 17)])
        self.refused(1, [((1,), 2)])
        self.refused(24, [((1,), 1 << 24)])
        self.refused(24, [((1,), 2 ** 53 - 1)])

    def test_out_of_order_by_sounds(self):
        self.refused(4, [((2,), 1), ((1,), 1)])
        self.refused(4, [((1, 2), 1), ((1, 1), 2)])
        self.refused(4, [((2,), 1), ((1, 3), 2)])

    def test_beginning_behind_what_it_begins(self):
        self.refused(4, [((1, 2), 1), ((1,), 2)])

    def test_out_of_order_by_chords(self):
        self.refused(4, [((1,), 2), ((1,), 1)])

    def test_a_rule_twice(self):
        self.refused(4, [((1,), 1), ((1,), 1)])

    def test_one_wrong_rule_among_right_ones(self):
        self.refused(4, [((1,), 1), ((2,), 0), ((3,), 1)])
        self.refused(4, [((1,), 1), ((3,), 1), ((2,), 1)])


class WhatStands(unittest.TestCase):
    def test_nothing_is_begun_at_first(self):
        calls = [best(1), every(1, 1), ways(1), said(1, 1), give((1,))]
        self.assertEqual(asked(*calls), [[-9]] * 5)

    def test_not_begun_comes_ahead_of_what_is_wrong(self):
        calls = [best(), every(17, 1), ways(0), said(17), give(())]
        self.assertEqual(asked(*calls), [[-9]] * 5)

    def test_a_refused_begin_begins_nothing(self):
        calls = [best(1), every(1, 1), ways(1), said(1, 1), give((1,))]
        self.assertEqual(asked(begin(0, ONE), *calls), [[-1]] + [[-9]] * 5)

    def test_begin_behind_calls_that_were_too_early(self):
        self.assertEqual(asked(best(1), begin(1, ONE), best(1)), [[-9], [0], [0, 1, 1]])

    def test_a_second_begin_takes_the_place_of_the_first(self):
        told = asked(begin(2, ONE), best(1), begin(2, [((2,), 2)]), best(1), best(2))
        self.assertEqual(told, [[0], [0, 1, 1], [0], [-3], [0, 1, 2]])

    def test_a_second_begin_may_have_fewer_keys(self):
        told = asked(begin(24, [((1,), 1 << 23)]), best(1), begin(1, ONE), best(1), begin(1, [((1,), 2)]))
        self.assertEqual(told, [[0], [0, 1, 1 << 23], [0], [0, 1, 1], [-1]])

    def test_after_a_refused_begin_the_theory_before_still_stands(self):
        told = asked(begin(2, ONE), begin(2, [((2,), 2), ((1,), 2)]), best(1), every(1, 1), ways(2))
        self.assertEqual(told, [[0], [-1], [0, 1, 1], [0, 1, 1, 1], [0, 0]])

    def test_other_refusals_change_nothing(self):
        told = asked(begin(2, ONE), best(), best(2), every(17, 1), ways(0), best(1), every(16, 1), ways(1))
        self.assertEqual(told, [[0], [-1], [-3], [-1], [-1], [0, 1, 1], [0, 1, 1, 1], [0, 1]])


if __name__ == "__main__":
    unittest.main()
