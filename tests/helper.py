"""What the tests share: calls put together, answers taken apart, and a slow search by the document's words."""

from itertools import combinations, product

from chordsounds.outlines import answers

EXAMPLE = [((1,), 1), ((1,), 32), ((1, 2), 3), ((2,), 2), ((2,), 16), ((3,), 8), ((4,), 4)]
ONE_KEY_ONLY = [((sound,), 1) for sound in range(1, 13)]


def row(numbers):
    return [len(numbers), *numbers]


def begin(keys, rules):
    return [0, keys] + row([number for sounds, chord in rules for number in (chord, len(sounds), *sounds)])


def best(*word):
    return [1] + row(word)


def every(most, *word):
    return [2, most] + row(word)


def ways(*word):
    return [3] + row(word)


def said(most, *outline):
    return [4, most] + row(outline)


def give(*words):
    return [5] + row([number for word in words for number in row(word)])


def clash(*outlines):
    return [6] + row([number for outline in outlines for number in row(outline)])


def line(*calls):
    return [number for call in calls for number in call]


def parted(told):
    """The answers of one list, one list for each call."""
    parts = []
    place = 0
    while place < len(told):
        end = place + 1 + told[place]
        parts.append(told[place + 1:end])
        place = end
    if place != len(told):
        raise ValueError("the last answer is cut")
    return parts


def asked(*calls):
    return parted(answers(line(*calls)))


def after(keys, rules, *calls):
    """The answers to calls behind a begin that must be taken."""
    told = asked(begin(keys, rules), *calls)
    if told[0] != [0]:
        raise ValueError(f"begin was refused: {told[0]}")
    return told[1:]


def told_rows(rows):
    """The answer that tells these rows."""
    return [0, len(rows)] + [number for one in rows for number in row(one)]


def rows_of(answer):
    """The rows of an answer that tells rows."""
    if answer[0] != 0:
        raise ValueError(f"refused: {answer}")
    rows = []
    place = 2
    for _ in range(answer[1]):
        end = place + 1 + answer[place]
        rows.append(answer[place + 1:end])
        place = end
    if place != len(answer):
        raise ValueError("the rows don't end where the answer ends")
    return rows


def keys_of(chord):
    return [key for key in range(53) if chord >> key & 1]


def outline_order(outline):
    return len(outline), sum(len(keys_of(chord)) for chord in outline), list(outline)


def rule_rows(rules, word):
    """All rows of rules whose sounds are together the word."""
    if not word:
        return [[]]
    found = []
    for sounds, chord in rules:
        if tuple(word[:len(sounds)]) == tuple(sounds):
            found += [[(sounds, chord)] + rest for rest in rule_rows(rules, word[len(sounds):])]
    return found


def may_be_stroke(part):
    return all(max(keys_of(one[1])) < min(keys_of(two[1])) for one, two in zip(part, part[1:]))


def slow_ways(rules, word):
    """Each way to write the word, as the outline that it comes to."""
    found = []
    for rule_row in rule_rows(rules, word):
        for ends in range(min(10, len(rule_row))):
            for cuts in combinations(range(1, len(rule_row)), ends):
                edges = [0, *cuts, len(rule_row)]
                parts = [rule_row[start:end] for start, end in zip(edges, edges[1:])]
                if all(may_be_stroke(part) for part in parts):
                    found.append(tuple(sum(chord for sounds, chord in part) for part in parts))
    return found


def slow_outlines(rules, word):
    return [list(outline) for outline in sorted(set(slow_ways(rules, word)), key=outline_order)]


def stroke_says(rules, chord, sounds):
    """If the stroke says the sounds, by trying each rule at the lowest of its keys."""
    for rule_sounds, rule_chord in rules:
        starts = sounds[:len(rule_sounds)] == rule_sounds
        rest = chord - rule_chord
        if starts and chord & rule_chord == rule_chord:
            left = sounds[len(rule_sounds):]
            if rest == 0 and not left:
                return True
            if rest and left and max(keys_of(rule_chord)) < min(keys_of(rest)) and stroke_says(rules, rest, left):
                return True
    return False


def says(rules, outline, word):
    if len(outline) == 1:
        return stroke_says(rules, outline[0], word)
    return any(
        stroke_says(rules, outline[0], word[:end]) and says(rules, outline[1:], word[end:])
        for end in range(1, len(word))
    )


def outlines_tried_out(keys, rules, word):
    """All chords tried for as many strokes as the word has sounds: slower still, and it makes up no outline."""
    found = []
    for strokes in range(1, len(word) + 1):
        for outline in product(range(1, 1 << keys), repeat=strokes):
            if says(rules, outline, word):
                found.append(list(outline))
    return sorted(found, key=outline_order)


def stroke_rows(rules, chord):
    """Each row of sounds that the stroke says."""
    found = []
    for sounds, rule_chord in rules:
        rest = chord - rule_chord
        if rest == 0:
            found.append(tuple(sounds))
        elif chord & rule_chord == rule_chord and max(keys_of(rule_chord)) < min(keys_of(rest)):
            found += [tuple(sounds) + behind for behind in stroke_rows(rules, rest)]
    return sorted(set(found))


def slow_said(rules, outline):
    """All words that the outline may say, in order."""
    parts = product(*[stroke_rows(rules, chord) for chord in outline])
    words = {tuple(sound for part in row_of_parts for sound in part) for row_of_parts in parts}
    return [list(word) for word in sorted(words) if len(word) <= 12]


def words_tried_out(rules, outline, sounds, most):
    """All words of some sounds tried, up to a length: slower still, and it makes up no word."""
    words = [word for length in range(1, most + 1) for word in product(sounds, repeat=length)]
    return [list(word) for word in sorted(words) if says(rules, tuple(outline), word)]


def clash_order(told):
    of_two = told[2] == 1000
    return max(told[:2] if of_two else told), 0 if of_two else 1, told


def slow_clashes(outlines):
    words = [number for number, outline in enumerate(outlines) if outline]
    found = [[one, two, 1000] for one, two in combinations(words, 2) if list(outlines[one]) == list(outlines[two])]
    for c, a, b in product(words, repeat=3):
        if c not in (a, b) and list(outlines[c]) == list(outlines[a]) + list(outlines[b]):
            found.append([c, a, b])
    return sorted(found, key=clash_order)


def slow_given(rules, words):
    given = []
    for word in words:
        free = [one for one in slow_outlines(rules, word)[:16] if not slow_clashes(given + [one])]
        given.append(free[0] if free else [])
    return given


def any_rules(source, keys, sounds, most_rules, most_sounds):
    rules = {}
    for _ in range(source.randint(0, most_rules)):
        length = source.randint(1, most_sounds)
        rule_sounds = tuple(source.randint(1, sounds) for _ in range(length))
        chord = source.choice([source.randint(1, (1 << keys) - 1), 1 << source.randint(0, keys - 1)])
        rules[rule_sounds, chord] = True
    return sorted(rules)


def any_word(source, sounds, most):
    return tuple(source.randint(1, sounds) for _ in range(source.randint(1, most)))
