"""Answers beside a slow, plain search by the document's definitions, over many small theories and words."""

import random
import unittest

from tests.helper import after, any_rules, any_word, asked, best, clash, clash_order, every, give, outline_order
from tests.helper import outlines_tried_out, rows_of, rule_rows, said, says, slow_clashes, slow_given, slow_outlines
from tests.helper import slow_said, slow_ways, stroke_rows, ways, words_tried_out


def best_answer(outlines):
    return [0, len(outlines[0]), *outlines[0]] if outlines else [-3]


class BesideSlowSearch(unittest.TestCase):
    def agree(self, keys, rules, word, most):
        told = after(keys, rules, best(*word), every(16, *word), every(most, *word), ways(*word))
        outlines = slow_outlines(rules, word)
        about = (keys, rules, word)
        self.assertEqual(told[0], best_answer(outlines), about)
        self.assertEqual(rows_of(told[1]), outlines[:16], about)
        self.assertEqual(rows_of(told[2]), outlines[:most], about)
        self.assertEqual(told[3], [0, len(slow_ways(rules, word))], about)
        return len(outlines)

    def test_small_theories_by_ways(self):
        source = random.Random(1)
        counts = []
        for _ in range(1500):
            keys = source.randint(1, 8)
            sounds = source.randint(1, 3)
            rules = any_rules(source, keys, sounds, 8, 3)
            word = any_word(source, sounds, 5)
            counts.append(self.agree(keys, rules, word, source.randint(0, 16)))
        # So that the search has met each kind of word: none, some, just enough, many.
        self.assertTrue(counts.count(0) > 100 and counts.count(1) > 20 and 16 in counts)
        self.assertTrue(sum(1 for count in counts if count > 16) > 100)

    def test_long_words_near_ten_strokes(self):
        source = random.Random(2)
        counts = []
        while len(counts) < 60:
            rules = any_rules(source, 2, 2, 4, 2)
            word = tuple(source.randint(1, 2) for _ in range(source.randint(9, 12)))
            # A word without a row of rules shows little here; one with very many keeps the search too long.
            if 0 < len(rule_rows(rules, word)) <= 30:
                counts.append(self.agree(2, rules, word, 16))
        self.assertTrue(counts.count(0) > 5 and max(counts) > 16)

    def test_many_keys(self):
        source = random.Random(3)
        for _ in range(300):
            self.agree(24, any_rules(source, 24, 2, 12, 2), any_word(source, 2, 5), 16)

    def test_small_theories_by_trying_all_outlines(self):
        source = random.Random(4)
        for _ in range(120):
            keys = source.randint(1, 4)
            rules = any_rules(source, keys, 2, 7, 3)
            word = any_word(source, 2, 3)
            tried = outlines_tried_out(keys, rules, word)
            told = after(keys, rules, best(*word), every(16, *word))
            self.assertEqual(told[0], best_answer(tried))
            self.assertEqual(rows_of(told[1]), tried[:16])


class SaidBesideSlowSearch(unittest.TestCase):
    def agree(self, keys, rules, outline, most):
        words = slow_said(rules, outline)
        told = after(keys, rules, said(16, *outline), said(most, *outline))
        self.assertEqual(rows_of(told[0]), words[:16], (keys, rules, outline))
        self.assertEqual(rows_of(told[1]), words[:most], (keys, rules, outline))
        return len(words)

    def test_small_theories(self):
        source = random.Random(11)
        counts = []
        for _ in range(3000):
            keys = source.randint(1, 5)
            rules = any_rules(source, keys, source.randint(1, 4), 16, 4)
            outline = [source.randint(1, (1 << keys) - 1) for _ in range(source.randint(1, 3))]
            counts.append(self.agree(keys, rules, outline, source.randint(0, 16)))
        self.assertTrue(counts.count(0) > 100 and counts.count(1) > 100 and 16 in counts)
        self.assertTrue(sum(1 for count in counts if count > 16) > 100)

    def test_words_around_twelve_sounds(self):
        source = random.Random(12)
        told_twelve = 0
        told_none = 0
        for _ in range(300):
            rules = [rule for rule in any_rules(source, 3, 2, 12, 8) if len(rule[0]) >= 2]
            outline = [source.randint(1, 7) for _ in range(source.randint(2, 3))]
            told = self.agree(3, rules, outline, source.randint(0, 16))
            told_twelve += any(len(word) == 12 for word in slow_said(rules, outline))
            told_none += not told and all(stroke_rows(rules, chord) for chord in outline)
        self.assertTrue(told_twelve > 30 and told_none > 10)

    def test_strokes_put_together_from_rules(self):
        source = random.Random(13)
        told = 0
        for _ in range(500):
            rules = any_rules(source, 24, 3, 20, 3)
            if rules:
                word = any_word(source, 3, 6)
                outlines = slow_outlines(rules, word)[:3]
                for outline in outlines:
                    if len(outline) <= 3:
                        told += self.agree(24, rules, outline, 16)
        self.assertTrue(told > 300)

    def test_small_theories_by_trying_all_words(self):
        source = random.Random(14)
        told = 0
        for _ in range(200):
            keys = source.randint(1, 3)
            rules = any_rules(source, keys, 2, 6, 2)
            outline = [source.randint(1, (1 << keys) - 1) for _ in range(source.randint(1, 2))]
            # A rule has two sounds at most and one key at least, so no longer word is said.
            most = 2 * sum(bin(chord).count("1") for chord in outline)
            if most <= 8:
                tried = words_tried_out(rules, outline, (1, 2), most)
                self.assertEqual(rows_of(after(keys, rules, said(16, *outline))[0]), tried[:16])
                told += len(tried)
        self.assertTrue(told > 200)


class ClashBesideSlowSearch(unittest.TestCase):
    def agree(self, outlines):
        expected = slow_clashes(outlines)
        self.assertEqual(rows_of(asked(clash(*outlines))[0]), expected, outlines)
        return len(expected)

    def test_rows_of_few_chords(self):
        source = random.Random(21)
        counts = []
        for _ in range(1500):
            chords = source.choice([1, 2, 3])
            outlines = [[source.randint(1, chords) for _ in range(source.randint(0, 4))]
                        for _ in range(source.randint(0, 9))]
            counts.append(self.agree(outlines))
        self.assertTrue(counts.count(0) > 100 and max(counts) > 50)

    def test_long_rows_of_long_outlines(self):
        source = random.Random(22)
        for _ in range(20):
            outlines = [[source.randint(1, 2) for _ in range(source.choice([1, 2, 4, 5, 10]))] for _ in range(40)]
            self.agree(outlines)

    def test_big_chords(self):
        source = random.Random(23)
        found = 0
        for _ in range(100):
            chords = [2 ** 53 - 1, 2 ** 53 - 2, 2 ** 24, 1]
            outlines = [[source.choice(chords) for _ in range(source.randint(0, 3))] for _ in range(12)]
            found += self.agree(outlines)
        self.assertTrue(found > 100)


class GiveBesideSlowSearch(unittest.TestCase):
    def agree(self, keys, rules, words):
        expected = slow_given(rules, words)
        self.assertEqual(rows_of(after(keys, rules, give(*words))[0]), expected, (keys, rules, words))
        bests = [(slow_outlines(rules, word) or [[]])[0] for word in words]
        return sum(1 for one, two in zip(expected, bests) if one != two)

    def test_small_theories(self):
        source = random.Random(31)
        passed_over = 0
        for _ in range(400):
            keys = source.randint(1, 4)
            rules = any_rules(source, keys, 2, 6, 2)
            words = [any_word(source, 2, 4) for _ in range(source.randint(0, 8))]
            passed_over += self.agree(keys, rules, words)
        self.assertTrue(passed_over > 300)

    def test_each_rule_a_stroke_of_its_own(self):
        # So outlines are long, and clashes of three come often.
        source = random.Random(32)
        passed_over = 0
        for _ in range(200):
            chords = [1, 3, 5]
            rules = sorted({((source.randint(1, 2),), source.choice(chords)) for _ in range(source.randint(1, 4))})
            words = [any_word(source, 2, 4) for _ in range(source.randint(1, 10))]
            passed_over += self.agree(3, rules, words)
        self.assertTrue(passed_over > 300)

    def test_rows_of_twenty_four_words(self):
        source = random.Random(33)
        for _ in range(12):
            rules = any_rules(source, 3, 2, 6, 2)
            self.agree(3, rules, [any_word(source, 2, 3) for _ in range(24)])


class ByPromises(unittest.TestCase):
    def test_what_said_tells_and_all_tells_belong_together(self):
        source = random.Random(7)
        told_by_said = 0
        told_by_all = 0
        for _ in range(300):
            keys = source.randint(1, 6)
            rules = any_rules(source, keys, 2, 10, 2)
            word = list(any_word(source, 2, 5))
            outlines = [one for one in rows_of(after(keys, rules, every(16, *word))[0]) if len(one) <= 3]
            for outline in outlines:
                words = rows_of(after(keys, rules, said(16, *outline))[0])
                # A word that isn't told has sixteen others ahead of it.
                self.assertTrue(word in words or len(words) == 16 and words[-1] < word, (rules, word, outline))
                told_by_all += 1
                for other in words[:3]:
                    first = rows_of(after(keys, rules, every(16, *other))[0])
                    ahead = len(first) == 16 and outline_order(first[-1]) < outline_order(outline)
                    self.assertTrue(outline in first or ahead, (rules, outline, other))
                    self.assertTrue(says(rules, tuple(outline), tuple(other)))
                    told_by_said += 1
        self.assertTrue(told_by_all > 500 and told_by_said > 500)

    def test_what_said_tells_is_in_order_and_each_once(self):
        source = random.Random(8)
        many = 0
        for _ in range(300):
            rules = any_rules(source, 24, 5, 32, 8)
            if rules:
                outline = [source.choice(rules)[1] for _ in range(source.randint(1, 3))]
                words = rows_of(after(24, rules, said(16, *outline))[0])
                many += len(words) > 1
                self.assertTrue(all(one < two for one, two in zip(words, words[1:])))
                self.assertTrue(all(1 <= len(word) <= 12 for word in words))
                for word in words:
                    self.assertTrue(says(rules, tuple(outline), tuple(word)), (rules, outline, word))
        self.assertTrue(many > 10)

    def test_what_give_gives_has_no_clash(self):
        source = random.Random(9)
        given_out = 0
        for _ in range(150):
            keys = source.choice([2, 4, 24])
            rules = any_rules(source, keys, 3, 32, 4)
            words = [any_word(source, 3, source.choice([2, 4, 12])) for _ in range(24)]
            given = rows_of(after(keys, rules, give(*words))[0])
            self.assertEqual(len(given), 24)
            self.assertEqual(asked(clash(*given)), [[0, 0]])
            for word, outline in zip(words, given):
                if outline:
                    given_out += 1
                    self.assertTrue(says(rules, tuple(outline), word), (rules, word, outline))
        self.assertTrue(given_out > 500)

    def test_clash_tells_each_once_in_order(self):
        source = random.Random(10)
        for _ in range(50):
            outlines = [[1] * source.randint(0, 10) for _ in range(40)]
            told = rows_of(asked(clash(*outlines))[0])
            orders = [clash_order(one) for one in told]
            self.assertTrue(all(one < two for one, two in zip(orders, orders[1:])))

    def test_what_is_told_says_the_word_in_order(self):
        source = random.Random(5)
        told_in_all = 0
        for _ in range(150):
            rules = any_rules(source, 24, 3, 32, 4)
            word = any_word(source, 3, 12)
            told = rows_of(after(24, rules, every(16, *word))[0])
            told_in_all += len(told)
            for outline in told:
                self.assertTrue(1 <= len(outline) <= 10)
                self.assertTrue(says(rules, tuple(outline), word), (rules, word, outline))
            orders = [outline_order(outline) for outline in told]
            self.assertTrue(all(one < two for one, two in zip(orders, orders[1:])))
        self.assertTrue(told_in_all > 500)

    def test_with_more_rules_a_best_outline_never_comes_later(self):
        source = random.Random(6)
        grown = 0
        for _ in range(300):
            rules = any_rules(source, 8, 3, 20, 3)
            word = any_word(source, 3, 10)
            fewer = [rule for rule in rules if source.random() < 0.8]
            before = after(8, fewer, best(*word))[0]
            later = after(8, rules, best(*word))[0]
            if before != [-3]:
                self.assertNotEqual(later, [-3])
                self.assertLessEqual(outline_order(later[2:]), outline_order(before[2:]))
            grown += before != later
        self.assertTrue(grown > 20)


if __name__ == "__main__":
    unittest.main()
