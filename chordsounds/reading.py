"""What an outline may say: words, in their order.

Words are kept apart by how many sounds they have. Of words with as many sounds, what is before another stays before
it when both are gone on with alike; so nowhere are more beginnings of one length wanted than words are asked for.
"""

from chordsounds.theory import MOST_WORD_SOUNDS


def first_words(theory, outline, most):
    """The first words that the outline may say: as many as asked for, or all, if there are fewer."""
    by_length = no_words()
    by_length[0].append(())
    for chord in outline:
        by_length = read_stroke(theory, chord, by_length, most)
    words = []
    for found in by_length:
        words.extend(found)
    return sorted(words)[:most]


def read_stroke(theory, chord, before, most):
    """From the first words of each length that the strokes before say, those with this stroke too."""
    lefts = left_by_left(chord)
    # By what is left of the stroke: the words, by their length, that have been read when it is left.
    read = dict([(left, no_words()) for left in lefts])
    read[chord] = before
    for left in lefts:
        read[left] = [sorted(set(found))[:most] for found in read[left]]
        for rule in theory.rules_that_begin(left):
            go_on(read[left - rule.chord], read[left], rule.sounds)
    return read[0]


def left_by_left(chord):
    """What is left of a chord when its lowest keys are taken away, one after another: from all to none."""
    lefts = [chord]
    while chord:
        chord = chord & chord - 1
        lefts.append(chord)
    return lefts


def go_on(found, by_length, sounds):
    """Put what comes of the words, with the sounds behind them, to what was found; what is too long is no word."""
    for length in range(MOST_WORD_SOUNDS - len(sounds) + 1):
        found[length + len(sounds)].extend([word + sounds for word in by_length[length]])


def no_words():
    return [[] for length in range(MOST_WORD_SOUNDS + 1)]
