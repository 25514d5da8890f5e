"""A word's outlines, in their order.

An outline is kept as one number, its code: how many keys it has in all, then the chords of ten strokes,
24 bits each, those of strokes that it doesn't have as 0. Of outlines with as many strokes, the smaller code
comes first in the order of outlines; and to add a rule to a stroke is to add a number to the code. So what
is before another stays before it when both are gone on with alike, and nowhere are more outlines of a word's
beginning wanted than are asked for of the word.
"""

MOST_STROKES = 10
MOST_OUTLINES = 16
CHORD_BITS = 24
FULL_CHORD = 16777215


def first_outlines(theory, word, most):
    """The first outlines of the word, each a list of chords: as many as asked for, or all, if there are fewer."""
    fits = theory.fits(word)
    ended = [[0]] + [[] for sound in word]
    outlines = []
    stroke = 0
    while stroke < MOST_STROKES and len(outlines) < most:
        stroke += 1
        ended = add_stroke(fits, ended, stroke, theory.key_count, most)
        outlines.extend([chords_of(code, stroke) for code in ended[-1]])
    return outlines[:most]


def add_stroke(fits, ended, stroke, key_count, most):
    """From the first codes of each beginning of the word in one stroke fewer, those with this stroke too."""
    # within[end][key]: the first codes up to that end whose last stroke is this one, with keys below key alone.
    within = []
    for ending in fits:
        found = [[] for key in range(key_count + 1)]
        for start, rule in ending:
            weight = weight_of(rule, stroke)
            before = ended[start] + within[start][rule.lowest]
            found[rule.above].extend([code + weight for code in before])
        within.append(first_below(found, most))
    return [below[-1] for below in within]


def first_below(found, most):
    """For each key the first of the codes that are found at it or at a key before, each once."""
    below = []
    kept = []
    for codes in found:
        if codes:
            kept = sorted(set(kept + codes))[:most]
        below.append(kept)
    return below


def weight_of(rule, stroke):
    """What a code grows by when the rule is added to that stroke (from 1)."""
    return (rule.size << CHORD_BITS * MOST_STROKES) + (rule.chord << bits_behind(stroke))


def chords_of(code, strokes):
    return [code >> bits_behind(stroke) & FULL_CHORD for stroke in range(1, strokes + 1)]


def bits_behind(stroke):
    return CHORD_BITS * (MOST_STROKES - stroke)
