"""How many ways there are to write a word: rows of rules with where strokes end."""

from chordsounds.writing import MOST_STROKES


def count_ways(theory, word):
    fits = theory.fits(word)
    ended = [1] + [0 for sound in word]
    total = 0
    for stroke in range(MOST_STROKES):
        ended = count_with_stroke(fits, ended, theory.key_count)
        total += ended[-1]
    return total


def count_with_stroke(fits, ended, key_count):
    """From the ways to write each beginning of the word in one stroke fewer, those with one more stroke."""
    # within[end][key]: the ways up to that end whose last stroke is the new one, with keys below key alone.
    within = []
    for ending in fits:
        found = [0 for key in range(key_count + 1)]
        for start, rule in ending:
            found[rule.above] += ended[start] + within[start][rule.lowest]
        within.append(sums_so_far(found))
    return [below[-1] for below in within]


def sums_so_far(numbers):
    sums = []
    total = 0
    for number in numbers:
        total += number
        sums.append(total)
    return sums
