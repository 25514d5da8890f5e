"""give: outlines given out word after word, so that no clash is left."""

import unittest

from tests.helper import EXAMPLE, ONE_KEY_ONLY, after, asked, begin, best, clash, every, give, rows_of

# No rule comes behind another in a stroke: each has key 0.
ALL_WITH_KEY_0 = [((1,), 1), ((1,), 3), ((1,), 5), ((2,), 9), ((2,), 17)]


class Give(unittest.TestCase):
    def given(self, keys, rules, *words):
        """What is given out; it never clashes."""
        given = rows_of(after(keys, rules, give(*words))[0])
        self.assertEqual(len(given), len(words))
        self.assertEqual(asked(clash(*given)), [[0, 0]])
        return given


class Refused(Give):
    def refused(self, *words):
        self.assertEqual(after(6, EXAMPLE, give(*words)), [[-1]])

    def test_before_a_begin(self):
        self.assertEqual(asked(give((1,)), give(), give(())), [[-9]] * 3)

    def test_after_a_begin_that_was_refused(self):
        self.assertEqual(asked(begin(0, EXAMPLE), give((1,))), [[-1], [-9]])

    def test_more_than_twenty_four_words(self):
        self.refused(*[(3,)] * 25)
        self.refused(*[(5,)] * 25)
        self.refused(*[(3,)] * 5000)
        self.assertEqual(after(6, EXAMPLE, give(*[(5,)] * 24)), [[0, 24] + [0] * 24])

    def test_one_that_is_no_word(self):
        for wrong in ((), (1,) * 13, (0,), (256,), (1, 0), (1, 256), (2 ** 53 - 1,), (1,) * 9000):
            self.refused(wrong)
            self.refused(wrong, (3,))
            self.refused((3,), wrong)
            self.refused((3,), wrong, (4,))

    def test_a_refusal_changes_nothing(self):
        told = after(6, EXAMPLE, give((3,), ()), give((3,)), best(3), give((3,)))
        self.assertEqual(told, [[-1], [0, 1, 1, 8], [0, 1, 8], [0, 1, 1, 8]])


class Given(Give):
    def test_no_words_at_all(self):
        self.assertEqual(after(6, EXAMPLE, give()), [[0, 0]])

    def test_words_that_do_not_clash_have_their_best(self):
        words = [(1,), (2, 3), (3, 1, 2), (1, 2, 3, 2, 1), (4,)]
        told = after(6, EXAMPLE, give(*words), *[best(*word) for word in words])
        self.assertEqual(rows_of(told[0]), [answer[2:] for answer in told[1:]])
        self.assertEqual(rows_of(told[0]), [[1], [10], [8, 3], [59], [4]])

    def test_words_at_their_edges(self):
        rules = [((1,), 1), ((255,), 2)]
        self.assertEqual(self.given(2, rules, (1,), (255,) * 10, (1, 255) * 6), [[1], [2] * 10, [3] * 6])

    def test_a_word_without_an_outline(self):
        self.assertEqual(self.given(6, EXAMPLE, (5,)), [[]])
        self.assertEqual(self.given(6, EXAMPLE, (5,), (3,), (5,), (6,), (4,)), [[], [8], [], [], [4]])
        self.assertEqual(self.given(1, ONE_KEY_ONLY, tuple(range(1, 12)), (3,)), [[], [1]])

    def test_twenty_four_words(self):
        rules = [((sound,), sound) for sound in range(1, 25)]
        self.assertEqual(self.given(5, rules, *[(sound,) for sound in range(1, 25)]),
                         [[sound] for sound in range(1, 25)])

    def test_the_same_word_twice_and_more_often(self):
        self.assertEqual(self.given(6, EXAMPLE, (1,)), [[1]])
        self.assertEqual(self.given(6, EXAMPLE, (1,), (1,)), [[1], [32]])
        self.assertEqual(self.given(6, EXAMPLE, (1,), (1,), (1,)), [[1], [32], []])
        self.assertEqual(self.given(6, EXAMPLE, (1,), (1,), (1,), (1,), (3,), (1,)), [[1], [32], [], [], [8], []])

    def test_the_first_sixteen_and_no_more(self):
        rules = [((1,), chord) for chord in range(1, 21)]
        first = rows_of(after(5, rules, every(16, 1))[0])
        self.assertEqual(len(first), 16)
        self.assertEqual(self.given(5, rules, *[(1,)] * 19), first + [[]] * 3)

    def test_a_word_that_was_given_none_clashes_with_none(self):
        rules = sorted([((1,), chord) for chord in range(1, 21)] + [((2,), 31)])
        given = self.given(5, rules, *[(1,)] * 18, (2,), (2,))
        self.assertEqual(given[16:], [[], [], [31], []])

    def test_a_clash_of_two_words_that_sound_otherwise(self):
        rules = [((1,), 1), ((1,), 3), ((2,), 1), ((2,), 2)]
        self.assertEqual(self.given(2, rules, (1,), (2,)), [[1], [2]])
        self.assertEqual(self.given(2, rules, (2,), (1,)), [[1], [3]])
        self.assertEqual(self.given(2, [((1,), 1), ((2,), 1)], (2,), (1,)), [[1], []])

    def test_words_ahead_do_not_give_way(self):
        rules = [((1,), 1), ((1,), 2), ((2,), 1)]
        self.assertEqual(self.given(2, rules, (1,), (2,)), [[1], []])

    def test_the_new_word_is_the_whole(self):
        self.assertEqual(self.given(5, ALL_WITH_KEY_0, (1, 2)), [[1, 9]])
        self.assertEqual(self.given(5, ALL_WITH_KEY_0, (1,), (2,), (1, 2)), [[1], [9], [1, 17]])
        self.assertEqual(self.given(5, ALL_WITH_KEY_0, (2,), (1,), (2, 1)), [[9], [1], [17, 1]])
        self.assertEqual(self.given(5, ALL_WITH_KEY_0, (1,), (1, 1)), [[1], [1, 3]])

    def test_the_new_word_is_the_beginning(self):
        self.assertEqual(self.given(5, ALL_WITH_KEY_0, (2,), (1, 2), (1,)), [[9], [1, 9], [3]])

    def test_the_new_word_is_the_end(self):
        self.assertEqual(self.given(5, ALL_WITH_KEY_0, (1,), (1, 2), (2,)), [[1], [1, 9], [17]])

    def test_the_new_word_is_both_parts(self):
        self.assertEqual(self.given(5, ALL_WITH_KEY_0, (1, 1), (1,)), [[1, 1], [3]])

    def test_the_new_word_is_a_part_and_the_other_part_has_none_yet(self):
        self.assertEqual(self.given(5, ALL_WITH_KEY_0, (1, 2), (1,)), [[1, 9], [1]])
        self.assertEqual(self.given(5, ALL_WITH_KEY_0, (1, 2), (2,)), [[1, 9], [9]])

    def test_parts_of_more_strokes(self):
        self.assertEqual(self.given(5, ALL_WITH_KEY_0, (1, 2), (1, 1, 2), (1,)), [[1, 9], [1, 1, 9], [3]])
        self.assertEqual(self.given(5, ALL_WITH_KEY_0, (1,), (1, 2, 1), (1, 2)), [[1], [1, 9, 1], [1, 17]])
        self.assertEqual(self.given(5, ALL_WITH_KEY_0, (2, 1), (1, 2, 2, 1), (1, 2)),
                         [[9, 1], [1, 9, 9, 1], [1, 17]])

    def test_every_outline_clashes_in_a_three(self):
        rules = [((1,), 1), ((2,), 3)]
        self.assertEqual(self.given(2, rules, (1,), (2,), (1, 2), (2, 1), (2,)), [[1], [3], [], [], []])

    def test_a_word_passed_over_by_two_kinds_of_clash(self):
        # 1 is another word's already, 3 would be both parts of the first.
        rules = [((1,), 1), ((1,), 3), ((1,), 5), ((2,), 3)]
        self.assertEqual(self.given(3, rules, (2, 2), (1,), (1,)), [[3, 3], [1], [5]])

    def test_a_give_keeps_nothing_for_the_next(self):
        told = after(6, EXAMPLE, give((1,)), give((1,)), give((1,), (1,)), give((1,)))
        self.assertEqual([rows_of(answer) for answer in told], [[[1]], [[1]], [[1], [32]], [[1]]])


if __name__ == "__main__":
    unittest.main()
