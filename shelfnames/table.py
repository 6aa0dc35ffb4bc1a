"""A table of weights: its entries, its options, and how a text is cut by it."""

GREATEST_OPTIONS = 1
LONGEST_SEQUENCE = 8
WEIGHTS_EACH = 3
MOST_WEIGHTS = 12
GREATEST_WEIGHT = 65535
MOST_ENTRIES = 64
LONGEST_TEXT = 64

UNFIT = -1
TOO_LONG = -2
THERE_ALREADY = -3
FULL = -4


def are_weights(w):
    if len(w) % WEIGHTS_EACH != 0 or len(w) > MOST_WEIGHTS:
        return False
    return all([weight <= GREATEST_WEIGHT for weight in w])


def is_sequence(seq):
    return 1 <= len(seq) <= LONGEST_SEQUENCE


def in_threes(w):
    return [(w[k], w[k + 1], w[k + 2]) for k in range(0, len(w), WEIGHTS_EACH)]


class Table:
    def __init__(self):
        self.options = 0
        # By sequence, as a tuple, since a list can't be a dict's key; the weights stand in threes.
        self.entries = {}

    def begin(self, options):
        if options > GREATEST_OPTIONS:
            return UNFIT
        self.options = options
        self.entries = {}
        return 0

    def add(self, seq, w):
        if not are_weights(w) or not is_sequence(seq):
            return UNFIT
        sequence = tuple(seq)
        if sequence in self.entries:
            return THERE_ALREADY
        if len(self.entries) >= MOST_ENTRIES:
            return FULL
        self.entries[sequence] = in_threes(w)
        return len(self.entries)

    def drop(self, seq):
        sequence = tuple(seq)
        if sequence not in self.entries:
            return 0
        self.entries.pop(sequence)
        return 1

    def count(self):
        return len(self.entries)

    def cut(self, s, at):
        if at >= len(s):
            return UNFIT
        if len(s) > LONGEST_TEXT:
            return TOO_LONG
        return self.place_behind(s, at)

    def place_behind(self, s, at):
        # A slice ends with the text, so a length beyond it would take a shorter entry for a longer one.
        longest = min(LONGEST_SEQUENCE, len(s) - at)
        for length in range(longest, 0, -1):
            if tuple(s[at:at + length]) in self.entries:
                return at + length
        return at + 1
