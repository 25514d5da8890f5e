"""What the tests share: calls put together, answers taken apart, and a slow search by the document's words."""

from itertools import combinations, product

from chordsounds.outlines import answers

EXAMPLE = [((1,), 1), ((1,), 32), ((1, 2), 3), ((2,), 2), ((2,), 16), ((3,), 8), ((4,), 4)]
ONE_KEY_ONLY = [((sound,), 1) for sound in range(1, 13)]


def row(numbers):
    return [len(numbers), *numbers]


def begin(keys, rules):
    return [0, keys] + row([number for sounds, chord in rules for number in (chord, len(sounds), *sounds)])


def best(*word):
    return [1] + row(word)


def every(most, *word):
    return [2, most] + row(word)


def ways(*word):
    return [3] + row(word)


def said(most, *outline):
    return [4, most] + row(outline)


def give(*words):
    return [5] + row([number for word in words for number in row(word)])


def line(*calls):
    return [number for call in calls for number in call]


def parted(told):
    """The answers of one list, one list for each call."""
    parts = []
    place = 0
    while place < len(told):
        end = place + 1 + told[place]
        parts.append(told[place + 1:end])
        place = end
    if place != len(told):
        raise ValueError("the last answer is cut")
    return parts


def asked(*calls):
    return parted(answers(line(*calls)))


def after(keys, rules, *calls):
    """The answers to calls behind a begin that must be taken."""
    told = asked(begin(keys, rules), *calls)
    if told[0] != [0]:
        raise ValueError(f"begin was refused: {told[0]}")
    return told[1:]


def rows_of(answer):
    """The rows of an answer that tells rows."""
    if answer[0] != 0:
        raise ValueError(f"refused: {answer}")
    rows = []
    place = 2
    for _ in range(answer[1]):
        end = place + 1 + answer[place]
        rows.append(answer[place + 1:end])
        place = end
    if place != len(answer):
        raise ValueError("the rows don't end where the answer ends")
    return rows


def keys_of(chord):
    return [key for key in range(53) if chord >> key & 1]


def outline_order(outline):
    return len(outline), sum(len(keys_of(chord)) for chord in outline), list(outline)


def rule_rows(rules, word):
    """All rows of rules whose sounds are together the word."""
    if not word:
        return [[]]
    found = []
    for sounds, chord in rules:
        if tuple(word[:len(sounds)]) == tuple(sounds):
            found += [[(sounds, chord)] + rest for rest in rule_rows(rules, word[len(sounds):])]
    return found


def may_be_stroke(part):
    return all(max(keys_of(one[1])) < min(keys_of(two[1])) for one, two in zip(part, part[1:]))


def slow_ways(rules, word):
    """Each way to write the word, as the outline that it comes to."""
    found = []
    for rule_row in rule_rows(rules, word):
        for ends in range(min(10, len(rule_row))):
            for cuts in combinations(range(1, len(rule_row)), ends):
                edges = [0, *cuts, len(rule_row)]
                parts = [rule_row[start:end] for start, end in zip(edges, edges[1:])]
                if all(may_be_stroke(part) for part in parts):
                    found.append(tuple(sum(chord for sounds, chord in part) for part in parts))
    return found


def slow_outlines(rules, word):
    return [list(outline) for outline in sorted(set(slow_ways(rules, word)), key=outline_order)]


def stroke_says(rules, chord, sounds):
    """If the stroke says the sounds, by trying each rule at the lowest of its keys."""
    for rule_sounds, rule_chord in rules:
        starts = sounds[:len(rule_sounds)] == rule_sounds
        rest = chord - rule_chord
        if starts and chord & rule_chord == rule_chord:
            left = sounds[len(rule_sounds):]
            if rest == 0 and not left:
                return True
            if rest and left and max(keys_of(rule_chord)) < min(keys_of(rest)) and stroke_says(rules, rest, left):
                return True
    return False


def says(rules, outline, word):
    if len(outline) == 1:
        return stroke_says(rules, outline[0], word)
    return any(
        stroke_says(rules, outline[0], word[:end]) and says(rules, outline[1:], word[end:])
        for end in range(1, len(word))
    )


def outlines_tried_out(keys, rules, word):
    """All chords tried for as many strokes as the word has sounds: slower still, and it makes up no outline."""
    found = []
    for strokes in range(1, len(word) + 1):
        for outline in product(range(1, 1 << keys), repeat=strokes):
            if says(rules, outline, word):
                found.append(list(outline))
    return sorted(found, key=outline_order)
