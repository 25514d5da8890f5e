"""Answers beside a slow, plain search by the document's definitions, over many small theories and words."""

import random
import unittest

from tests.helper import after, best, every, outline_order, outlines_tried_out, rows_of, says, slow_outlines
from tests.helper import rule_rows, slow_ways, ways


def any_rules(source, keys, sounds, most_rules, most_sounds):
    rules = {}
    for _ in range(source.randint(0, most_rules)):
        length = source.randint(1, most_sounds)
        rule_sounds = tuple(source.randint(1, sounds) for _ in range(length))
        chord = source.choice([source.randint(1, (1 << keys) - 1), 1 << source.randint(0, keys - 1)])
        rules[rule_sounds, chord] = True
    return sorted(rules)


def any_word(source, sounds, most):
    return tuple(source.randint(1, sounds) for _ in range(source.randint(1, most)))


def best_answer(outlines):
    return [0, len(outlines[0]), *outlines[0]] if outlines else [-3]


class BesideSlowSearch(unittest.TestCase):
    def agree(self, keys, rules, word, most):
        told = after(keys, rules, best(*word), every(16, *word), every(most, *word), ways(*word))
        outlines = slow_outlines(rules, word)
        about = (keys, rules, word)
        self.assertEqual(told[0], best_answer(outlines), about)
        self.assertEqual(rows_of(told[1]), outlines[:16], about)
        self.assertEqual(rows_of(told[2]), outlines[:most], about)
        self.assertEqual(told[3], [0, len(slow_ways(rules, word))], about)
        return len(outlines)

    def test_small_theories_by_ways(self):
        source = random.Random(1)
        counts = []
        for _ in range(1500):
            keys = source.randint(1, 8)
            sounds = source.randint(1, 3)
            rules = any_rules(source, keys, sounds, 8, 3)
            word = any_word(source, sounds, 5)
            counts.append(self.agree(keys, rules, word, source.randint(0, 16)))
        # So that the search has met each kind of word: none, some, just enough, many.
        self.assertTrue(counts.count(0) > 100 and counts.count(1) > 20 and 16 in counts)
        self.assertTrue(sum(1 for count in counts if count > 16) > 100)

    def test_long_words_near_ten_strokes(self):
        source = random.Random(2)
        counts = []
        while len(counts) < 60:
            rules = any_rules(source, 2, 2, 4, 2)
            word = tuple(source.randint(1, 2) for _ in range(source.randint(9, 12)))
            # A word without a row of rules shows little here; one with very many keeps the search too long.
            if 0 < len(rule_rows(rules, word)) <= 30:
                counts.append(self.agree(2, rules, word, 16))
        self.assertTrue(counts.count(0) > 5 and max(counts) > 16)

    def test_many_keys(self):
        source = random.Random(3)
        for _ in range(300):
            self.agree(24, any_rules(source, 24, 2, 12, 2), any_word(source, 2, 5), 16)

    def test_small_theories_by_trying_all_outlines(self):
        source = random.Random(4)
        for _ in range(120):
            keys = source.randint(1, 4)
            rules = any_rules(source, keys, 2, 7, 3)
            word = any_word(source, 2, 3)
            tried = outlines_tried_out(keys, rules, word)
            told = after(keys, rules, best(*word), every(16, *word))
            self.assertEqual(told[0], best_answer(tried))
            self.assertEqual(rows_of(told[1]), tried[:16])


class ByPromises(unittest.TestCase):
    def test_what_is_told_says_the_word_in_order(self):
        source = random.Random(5)
        told_in_all = 0
        for _ in range(150):
            rules = any_rules(source, 24, 3, 32, 4)
            word = any_word(source, 3, 12)
            told = rows_of(after(24, rules, every(16, *word))[0])
            told_in_all += len(told)
            for outline in told:
                self.assertTrue(1 <= len(outline) <= 10)
                self.assertTrue(says(rules, tuple(outline), word), (rules, word, outline))
            orders = [outline_order(outline) for outline in told]
            self.assertTrue(all(one < two for one, two in zip(orders, orders[1:])))
        self.assertTrue(told_in_all > 500)

    def test_with_more_rules_a_best_outline_never_comes_later(self):
        source = random.Random(6)
        grown = 0
        for _ in range(300):
            rules = any_rules(source, 8, 3, 20, 3)
            word = any_word(source, 3, 10)
            fewer = [rule for rule in rules if source.random() < 0.8]
            before = after(8, fewer, best(*word))[0]
            later = after(8, rules, best(*word))[0]
            if before != [-3]:
                self.assertNotEqual(later, [-3])
                self.assertLessEqual(outline_order(later[2:]), outline_order(before[2:]))
            grown += before != later
        self.assertTrue(grown > 20)


if __name__ == "__main__":
    unittest.main()
