"""The document's own examples."""

import unittest

from tests.helper import EXAMPLE, after, best, every, rows_of, slow_ways, ways


class Examples(unittest.TestCase):
    def ask(self, call):
        return after(6, EXAMPLE, call)[0]

    def test_five_sounds_in_one_stroke(self):
        self.assertEqual(self.ask(best(1, 2, 3, 2, 1)), [0, 1, 59])

    def test_that_stroke_comes_by_two_ways(self):
        self.assertEqual(slow_ways(EXAMPLE, (1, 2, 3, 2, 1)).count((59,)), 2)
        self.assertEqual(self.ask(ways(1, 2, 3, 2, 1)), [0, len(slow_ways(EXAMPLE, (1, 2, 3, 2, 1)))])

    def test_two_sounds(self):
        self.assertEqual(self.ask(best(2, 3)), [0, 1, 10])

    def test_two_strokes(self):
        self.assertEqual(self.ask(best(3, 1, 2)), [0, 2, 8, 3])
        first = rows_of(self.ask(every(4, 3, 1, 2)))
        self.assertEqual(first, [[8, 3], [8, 17], [40, 2], [40, 16]])

    def test_a_sound_that_no_rule_has(self):
        self.assertEqual(self.ask(best(5)), [-3])


if __name__ == "__main__":
    unittest.main()
