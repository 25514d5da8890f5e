"""Sequences of all seven calls, with begins and refusals among them, beside a slow desk by the document's words."""

import random
import unittest
from collections import Counter

from chordsounds.outlines import answers
from tests.helper import any_rules, any_word, begin, best, clash, every, give, keys_of, line, parted, said
from tests.helper import slow_clashes, slow_given, slow_outlines, slow_said, slow_ways, told_rows, ways


def are_sounds(sounds, most):
    return len(sounds) in range(1, most + 1) and all(sound in range(1, 256) for sound in sounds)


def are_chords(chords, keys):
    return all(chord and max(keys_of(chord)) < keys for chord in chords)


class SlowDesk:
    def __init__(self):
        self.keys = None
        self.rules = None

    def answer(self, call, *parts):
        if self.rules is None and call not in (begin, clash):
            return [-9]
        return getattr(self, call.__name__)(*parts)

    def begin(self, keys, rules):
        right = keys in range(1, 25) and len(rules) <= 32
        right = right and all(are_sounds(sounds, 8) and are_chords([chord], keys) for sounds, chord in rules)
        if not right or list(rules) != sorted(set(rules)):
            return [-1]
        self.keys = keys
        self.rules = rules
        return [0]

    def best(self, *word):
        if not are_sounds(word, 12):
            return [-1]
        outlines = slow_outlines(self.rules, word)
        return [0, len(outlines[0]), *outlines[0]] if outlines else [-3]

    def every(self, most, *word):
        if not are_sounds(word, 12) or most > 16:
            return [-1]
        return told_rows(slow_outlines(self.rules, word)[:most])

    def ways(self, *word):
        if not are_sounds(word, 12):
            return [-1]
        return [0, len(slow_ways(self.rules, word))]

    def said(self, most, *outline):
        if len(outline) not in (1, 2, 3) or not are_chords(outline, self.keys) or most > 16:
            return [-1]
        return told_rows(slow_said(self.rules, outline)[:most])

    def give(self, *words):
        if len(words) > 24 or not all(are_sounds(word, 12) for word in words):
            return [-1]
        return told_rows(slow_given(self.rules, words))

    def clash(self, *outlines):
        if len(outlines) > 40 or any(len(outline) > 10 or 0 in outline for outline in outlines):
            return [-1]
        return told_rows(slow_clashes(outlines))


class Asker:
    """Makes up calls; about one in six is wrong in some way."""

    def __init__(self, seed):
        self.source = random.Random(seed)

    def wrong(self):
        return self.source.random() < 1 / 6

    def word(self):
        if self.wrong():
            return self.source.choice([(), (1,) * 13, (0,), (1, 256), (2 ** 53 - 1,)])
        return any_word(self.source, 2, 4)

    def most(self):
        return self.source.choice([17, 2 ** 53 - 1]) if self.wrong() else self.source.randint(0, 16)

    def begin(self):
        keys = self.source.randint(1, 4)
        rules = any_rules(self.source, keys, 2, 6, 2)
        if self.wrong():
            return self.source.choice([
                (0, rules), (25, rules), (keys, rules + [((3,), 1 << keys)]), (keys, rules + [((3,), 0)]),
                (keys, [((3,), 1)] + rules + [((2,), 1)]), (keys, rules + [((256,), 1)]),
                (keys, rules + [((3,) * 9, 1)]), (keys, [((), 1)] + rules),
                (24, [((1,), chord) for chord in range(1, 34)]),
            ])
        return keys, rules

    def best(self):
        return self.word()

    def every(self):
        return self.most(), *self.word()

    def ways(self):
        return self.word()

    def said(self):
        outline = [self.source.randint(1, 7) for _ in range(self.source.randint(1, 3))]
        if self.wrong():
            outline = self.source.choice([[], outline + [0], outline * 4, [1 << 24] + outline])
        return self.most(), *outline

    def give(self):
        words = [any_word(self.source, 2, 3) for _ in range(self.source.randint(0, 6))]
        if self.wrong():
            return words + self.source.choice([[()], [(0,), (1,)], [(1,) * 13], [(256,)], [(1,)] * 25])
        return words

    def clash(self):
        outlines = [[self.source.randint(1, 2) for _ in range(self.source.randint(0, 3))]
                    for _ in range(self.source.randint(0, 6))]
        if self.wrong():
            return outlines + self.source.choice([[[0], [1]], [[1] * 11], [[2, 0]], [[]] * 41])
        return outlines

    def call(self):
        call = self.source.choice([begin, best, every, ways, said, give, clash])
        return call, *getattr(self, call.__name__)()


class Sequences(unittest.TestCase):
    def agree(self, calls):
        desk = SlowDesk()
        handed_in = line(*[call(*parts) for call, *parts in calls])
        before = list(handed_in)
        told = answers(handed_in)
        self.assertEqual(handed_in, before)
        self.assertEqual(answers(handed_in), told)
        for call, answer in zip(calls, parted(told), strict=True):
            self.assertEqual(answer, desk.answer(*call), calls)
            yield call[0].__name__, min(answer[0], 0)

    def test_beside_a_slow_desk(self):
        asker = Asker(41)
        met = Counter()
        for _ in range(4000):
            met.update(self.agree([asker.call() for _ in range(asker.source.randint(1, 20))]))
        # Each call has been answered in each way that the document names, but for 2^53 ways.
        for name in ("begin", "best", "every", "ways", "said", "give", "clash"):
            refusals = [-1] + ([-9] if name not in ("begin", "clash") else []) + ([-3] if name == "best" else [])
            for number in [0] + refusals:
                self.assertTrue(met[name, number] > 20, (name, number, met))

    def test_refusals_change_nothing(self):
        asker = Asker(42)
        for _ in range(200):
            calls = [line(call(*parts)) for call, *parts in [asker.call() for _ in range(20)]]
            told = parted(answers(line(*calls)))
            taken = [call for call, answer in zip(calls, told) if answer[0] == 0]
            if taken:
                self.assertEqual(parted(answers(line(*taken))), [answer for answer in told if answer[0] == 0])

    def test_calls_that_begin_nothing_change_nothing(self):
        asker = Asker(43)
        for _ in range(100):
            calls = [line(call(*parts)) for call, *parts in [asker.call() for _ in range(10)]]
            told = parted(answers(line(*calls)))
            begins = []
            for call, answer in zip(calls, told):
                self.assertEqual(parted(answers(line(*begins, call)))[-1], answer)
                if call[0] == 0:
                    begins.append(call)


if __name__ == "__main__":
    unittest.main()
