"""clash: every clash among outlines in a row, once, in order."""

import unittest
from itertools import permutations

from tests.helper import EXAMPLE, asked, begin, best, clash, clash_order, rows_of, slow_clashes

BIG = 2 ** 53 - 1


class Clash(unittest.TestCase):
    def clashes(self, *outlines):
        return rows_of(asked(clash(*outlines))[0])


class Refused(Clash):
    def refused(self, *outlines):
        self.assertEqual(asked(clash(*outlines)), [[-1]])

    def test_more_than_forty(self):
        self.refused(*[(1,)] * 41)
        self.refused(*[()] * 41)
        self.refused(*[()] * 10000)
        self.assertEqual(asked(clash(*[()] * 40)), [[0, 0]])

    def test_more_than_ten_chords(self):
        self.refused((1,) * 11)
        self.refused((1,), (1,) * 11, (2,))
        self.refused((1,) * 9999)
        self.assertEqual(asked(clash((1,) * 10)), [[0, 0]])

    def test_a_chord_without_a_key(self):
        self.refused((0,))
        self.refused((1,), (1, 0))
        self.refused((1, 0, 1), (1,))
        self.refused((), (1,) * 9 + (0,))

    def test_a_refusal_changes_nothing(self):
        told = asked(begin(6, EXAMPLE), clash((0,)), best(2, 3), clash((10,), (10,)), best(2, 3))
        self.assertEqual(told, [[0], [-1], [0, 1, 10], [0, 1, 3, 0, 1, 1000], [0, 1, 10]])


class WhenAsked(Clash):
    def test_before_any_begin_and_after_a_refused_one(self):
        told = asked(clash((10,), (10,)), begin(0, []), clash((10,), (10,)), best(1))
        self.assertEqual(told, [[0, 1, 3, 0, 1, 1000], [-1], [0, 1, 3, 0, 1, 1000], [-9]])

    def test_after_a_begin_the_same(self):
        told = asked(clash((8,), (8, 8)), begin(6, EXAMPLE), clash((8,), (8, 8)))
        self.assertEqual(told[0], told[2])

    def test_it_begins_nothing(self):
        self.assertEqual(asked(clash(), clash((1,)), best(1)), [[0, 0], [0, 0], [-9]])

    def test_chords_may_have_any_keys(self):
        expected = [[0, 1, 1000], [3, 0, 2], [3, 1, 2]]
        outlines = [(BIG,), (BIG,), (1 << 52,), (BIG, 1 << 52)]
        self.assertEqual(self.clashes(*outlines), expected)
        told = asked(begin(1, [((1,), 1)]), clash(*outlines))
        self.assertEqual(rows_of(told[1]), expected)

    def test_big_chords_that_differ_in_one_key(self):
        self.assertEqual(self.clashes((BIG,), (BIG - 1,)), [])
        self.assertEqual(self.clashes((BIG, BIG), (BIG,), (BIG - 1,)), [[0, 1, 1]])

    def test_chords_that_fill_24_bits_are_not_run_together(self):
        self.assertEqual(self.clashes((1 << 24,), (1, 0x1000000), (1,)), [[1, 2, 0]])
        self.assertEqual(self.clashes((1,), (2,), ((1 << 24) + 2,)), [])


class Found(Clash):
    def test_no_outlines_at_all(self):
        self.assertEqual(asked(clash()), [[0, 0]])

    def test_one_outline(self):
        self.assertEqual(self.clashes((7,)), [])
        self.assertEqual(self.clashes((7, 7)), [])
        self.assertEqual(self.clashes(()), [])

    def test_other_outlines(self):
        self.assertEqual(self.clashes((1,), (2,), (3,), (2, 1), (1, 3)), [[3, 1, 0], [4, 0, 2]])
        self.assertEqual(self.clashes((1,), (2,), (3,), (4, 1), (1, 4)), [])

    def test_two_with_one_outline(self):
        self.assertEqual(self.clashes((1, 2), (3,), (1, 2)), [[0, 2, 1000]])
        self.assertEqual(self.clashes((1, 2), (2, 1)), [])
        self.assertEqual(self.clashes((1, 2), (1,)), [])
        self.assertEqual(self.clashes((1,) * 10, (1,) * 10), [[0, 1, 1000]])

    def test_each_two_of_many(self):
        expected = [[one, two, 1000] for two in range(40) for one in range(two)]
        self.assertEqual(self.clashes(*[(5, 6)] * 40), expected)

    def test_none_clashes_with_none(self):
        self.assertEqual(self.clashes((), ()), [])
        self.assertEqual(self.clashes((), (1,), (), (1,)), [[1, 3, 1000]])
        self.assertEqual(self.clashes((), (1,), (2,)), [])
        # No outline with a word's behind it would be that word's.
        self.assertEqual(self.clashes((1,), (), ()), [])
        self.assertEqual(self.clashes((), (8,), (), (8, 8)), [[3, 1, 1]])

    def test_three_in_each_order_of_the_row(self):
        chords = {"a": (1, 2), "b": (3,), "c": (1, 2, 3)}
        for names in permutations("abc"):
            told = self.clashes(*[chords[name] for name in names])
            self.assertEqual(told, [[names.index("c"), names.index("a"), names.index("b")]])

    def test_what_lies_behind_is_not_ahead(self):
        self.assertEqual(self.clashes((1,), (2,), (1, 2)), [[2, 0, 1]])
        self.assertEqual(self.clashes((1,), (2,), (2, 1)), [[2, 1, 0]])

    def test_a_and_b_the_same_word(self):
        self.assertEqual(self.clashes((8,), (8, 8)), [[1, 0, 0]])
        self.assertEqual(self.clashes((8, 8), (8,)), [[0, 1, 1]])
        self.assertEqual(self.clashes((8, 8, 8), (8,)), [])
        self.assertEqual(self.clashes((1, 2), (1, 2, 1, 2)), [[1, 0, 0]])

    def test_parts_of_five_chords_and_a_whole_of_ten(self):
        whole = tuple(range(1, 11))
        for cut in range(1, 10):
            self.assertEqual(self.clashes(whole, whole[cut:], whole[:cut]), [[0, 2, 1]])

    def test_a_whole_with_something_left_over(self):
        self.assertEqual(self.clashes((1,), (2,), (1, 3, 2)), [])
        self.assertEqual(self.clashes((1, 3), (3, 2), (1, 3, 2)), [])

    def test_one_whole_by_several_cuts(self):
        told = self.clashes((1, 2, 3), (1,), (2, 3), (1, 2), (3,))
        self.assertEqual(told, [[0, 1, 2], [0, 3, 4]])

    def test_each_pair_of_parts(self):
        told = self.clashes((1,), (1,), (1, 1))
        self.assertEqual(told, [[0, 1, 1000], [2, 0, 0], [2, 0, 1], [2, 1, 0], [2, 1, 1]])

    def test_a_word_may_be_a_whole_and_a_part(self):
        told = self.clashes((1,), (1, 1), (1, 1, 1))
        self.assertEqual(told, [[1, 0, 0], [2, 0, 1], [2, 1, 0]])


class Order(Clash):
    def test_by_the_last_word(self):
        self.assertEqual(self.clashes((1,), (1, 1), (9,), (9,), (1, 1, 1)),
                         [[1, 0, 0], [2, 3, 1000], [4, 0, 1], [4, 1, 0]])
        # The last word may be the whole, the beginning or the end.
        self.assertEqual(self.clashes((1, 2), (3, 4), (4,), (3,), (2,), (1,)), [[1, 3, 2], [0, 5, 4]])
        self.assertEqual(self.clashes((1, 2), (3, 4), (3,), (4,), (1,), (2,)), [[1, 2, 3], [0, 4, 5]])

    def test_those_of_two_words_first(self):
        told = self.clashes((1, 1), (5,), (1,), (1,))
        self.assertEqual(told, [[0, 2, 2], [2, 3, 1000], [0, 2, 3], [0, 3, 2], [0, 3, 3]])
        # Those of two go ahead even where their numbers are greater.
        told = self.clashes((1,), (2,), (1, 2), (1, 2))
        self.assertEqual(told, [[2, 0, 1], [2, 3, 1000], [3, 0, 1]])

    def test_then_by_the_three_numbers(self):
        # The last word is an end, both parts, a beginning and a whole.
        told = self.clashes((2, 1), (1, 1), (1, 2), (2,), (1,))
        self.assertEqual(told, [[0, 3, 4], [1, 4, 4], [2, 4, 3]])
        told = self.clashes((1, 1, 1), (1, 1), (1,), (1,))
        self.assertEqual(told, [
            [0, 1, 2], [0, 2, 1], [1, 2, 2],
            [2, 3, 1000], [0, 1, 3], [0, 3, 1], [1, 2, 3], [1, 3, 2], [1, 3, 3],
        ])

    def test_numbers_are_not_put_in_order_as_texts(self):
        outlines = [(1,)] + [(9, number) for number in range(1, 9)] + [(2,), (3,), (1, 3), (1, 2)]
        self.assertEqual(self.clashes(*outlines), [[11, 0, 10], [12, 0, 9]])

    def test_most_of_all_clashes(self):
        for outlines in ([(1,)] * 27 + [(1, 1)] * 13, [(1, 1)] * 13 + [(1,)] * 27, [(1,), (1, 1), (1,)] * 13):
            told = self.clashes(*outlines)
            self.assertEqual(told, slow_clashes(outlines))
            orders = [clash_order(one) for one in told]
            self.assertTrue(all(one < two for one, two in zip(orders, orders[1:])))


if __name__ == "__main__":
    unittest.main()
