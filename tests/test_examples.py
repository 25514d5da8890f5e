"""The document's own examples."""

import unittest

from tests.helper import EXAMPLE, after, asked, best, clash, every, rows_of, said, slow_ways, ways


class Examples(unittest.TestCase):
    def ask(self, call):
        return after(6, EXAMPLE, call)[0]

    def test_five_sounds_in_one_stroke(self):
        self.assertEqual(self.ask(best(1, 2, 3, 2, 1)), [0, 1, 59])

    def test_that_stroke_comes_by_two_ways(self):
        self.assertEqual(slow_ways(EXAMPLE, (1, 2, 3, 2, 1)).count((59,)), 2)
        self.assertEqual(self.ask(ways(1, 2, 3, 2, 1)), [0, len(slow_ways(EXAMPLE, (1, 2, 3, 2, 1)))])

    def test_two_sounds(self):
        self.assertEqual(self.ask(best(2, 3)), [0, 1, 10])

    def test_two_strokes(self):
        self.assertEqual(self.ask(best(3, 1, 2)), [0, 2, 8, 3])
        first = rows_of(self.ask(every(4, 3, 1, 2)))
        self.assertEqual(first, [[8, 3], [8, 17], [40, 2], [40, 16]])

    def test_a_sound_that_no_rule_has(self):
        self.assertEqual(self.ask(best(5)), [-3])

    def test_what_a_stroke_says(self):
        self.assertEqual(self.ask(said(16, 10)), [0, 1, 2, 2, 3])
        self.assertEqual(self.ask(said(1, 10)), [0, 1, 2, 2, 3])

    def test_clashes(self):
        for outlines, told in (
            ([[10], [10]], [0, 1, 3, 0, 1, 1000]),
            ([[8], [3], [8, 3]], [0, 1, 3, 2, 0, 1]),
            ([[8], [8, 8]], [0, 1, 3, 1, 0, 0]),
            ([[], []], [0, 0]),
        ):
            self.assertEqual(asked(clash(*outlines)), [told])
            self.assertEqual(self.ask(clash(*outlines)), told)


if __name__ == "__main__":
    unittest.main()
