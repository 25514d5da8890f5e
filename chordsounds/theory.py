"""Theories: the rules by which sounds are written with keys, and where they fit a word."""

MOST_KEYS = 24
MOST_RULES = 32
MOST_RULE_SOUNDS = 8
MOST_WORD_SOUNDS = 12
LAST_SOUND = 255


class Rule:
    """Sounds and the chord that writes them, with what is asked of its keys again and again."""

    def __init__(self, sounds, chord):
        self.sounds = sounds
        self.chord = chord
        self.size = count_keys(chord)
        self.lowest = (chord & -chord).bit_length() - 1
        # All its keys are below this one, so it tells which rules may follow in a stroke.
        self.above = chord.bit_length()


class Theory:
    """How many keys there are, and the rules; both have been found right before."""

    def __init__(self, key_count, rules):
        self.key_count = key_count
        self.rules = [Rule(sounds, chord) for sounds, chord in rules]
        self.by_sounds = {}
        for rule in self.rules:
            self.by_sounds.setdefault(rule.sounds, []).append(rule)

    def fits(self, word):
        """For each end in the word, from 0 to its length: (start, rule) of the rules that write what lies between.

        The walk goes from the word's end, to leave out the places from which that end can't be reached:
        no outline goes through them, and they may be many.
        """
        table = [[] for end in range(len(word) + 1)]
        reaches = [False for sound in word] + [True]
        for end in range(len(word), 0, -1):
            if reaches[end]:
                for start in range(max(0, end - MOST_RULE_SOUNDS), end):
                    for rule in self.by_sounds.get(tuple(word[start:end]), ()):
                        table[end].append((start, rule))
                        reaches[start] = True
        return table

    def rules_that_begin(self, chord):
        """The rules whose keys are just the lowest ones of the chord, so that all others come behind them."""
        return [rule for rule in self.rules if chord & (1 << rule.above) - 1 == rule.chord]


def count_keys(chord):
    return sum([chord >> key & 1 for key in range(chord.bit_length())])


def read_rules(row):
    """The rules that a row of numbers tells, each as (sounds, chord): so they compare as their order asks."""
    rules = []
    place = 0
    while place < len(row):
        start = place + 2
        end = start + row[place + 1]
        rules.append((tuple(row[start:end]), row[place]))
        place = end
    return rules


def are_sounds(row, most):
    return 1 <= len(row) <= most and all([1 <= sound <= LAST_SOUND for sound in row])


def is_word(row):
    return are_sounds(row, MOST_WORD_SOUNDS)


def is_chord(number, key_count):
    return number > 0 and number >> key_count == 0


def is_rule(sounds, chord, key_count):
    return are_sounds(sounds, MOST_RULE_SOUNDS) and is_chord(chord, key_count)


def is_theory(key_count, rules):
    if not 1 <= key_count <= MOST_KEYS or len(rules) > MOST_RULES:
        return False
    if not all([is_rule(sounds, chord, key_count) for sounds, chord in rules]):
        return False
    return all([rule < later for rule, later in zip(rules, rules[1:])])
