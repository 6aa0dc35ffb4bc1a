"""A table of weights: its entries, its options, and how texts are cut, compared, found and made into keys by it."""

from shelfnames.levels import are_between, high_of, key_of, levels_as_they_stand, levels_by_options, low_of, order

GREATEST_OPTIONS = 1
LONGEST_SEQUENCE = 8
WEIGHTS_EACH = 3
MOST_WEIGHTS = 12
GREATEST_WEIGHT = 65535
MOST_ENTRIES = 64
LONGEST_TEXT = 64
GREATEST_STRENGTH = 3
UNLISTED = 65536

UNFIT = -1
TOO_LONG = -2
THERE_ALREADY = -3
FULL = -4


def are_weights(w):
    if len(w) % WEIGHTS_EACH != 0 or len(w) > MOST_WEIGHTS:
        return False
    return all([weight <= GREATEST_WEIGHT for weight in w])


def is_sequence(seq):
    return 1 <= len(seq) <= LONGEST_SEQUENCE


def in_threes(w):
    return [(w[k], w[k + 1], w[k + 2]) for k in range(0, len(w), WEIGHTS_EACH)]


def is_strength(strength):
    return 1 <= strength <= GREATEST_STRENGTH


def is_too_long(text):
    return len(text) > LONGEST_TEXT


def with_length(numbers):
    return [len(numbers)] + numbers


class Table:
    def __init__(self):
        self.options = 0
        # By sequence, as a tuple, since a list can't be a dict's key; the weights stand in threes.
        self.entries = {}

    def begin(self, options):
        if options > GREATEST_OPTIONS:
            return UNFIT
        self.options = options
        self.entries = {}
        return 0

    def add(self, seq, w):
        if not are_weights(w) or not is_sequence(seq):
            return UNFIT
        sequence = tuple(seq)
        if sequence in self.entries:
            return THERE_ALREADY
        if len(self.entries) >= MOST_ENTRIES:
            return FULL
        self.entries[sequence] = in_threes(w)
        return len(self.entries)

    def drop(self, seq):
        sequence = tuple(seq)
        if sequence not in self.entries:
            return 0
        self.entries.pop(sequence)
        return 1

    def count(self):
        return len(self.entries)

    def cut(self, s, at):
        if at >= len(s):
            return UNFIT
        if is_too_long(s):
            return TOO_LONG
        return self.place_behind(s, at)

    def compare(self, a, b, strength):
        if not is_strength(strength):
            return UNFIT
        if is_too_long(a) or is_too_long(b):
            return TOO_LONG
        return order(self.levels_of(a)[:strength], self.levels_of(b)[:strength])

    def find(self, s, p, strength, start):
        if not is_strength(strength):
            return [UNFIT]
        if is_too_long(s) or is_too_long(p):
            return [TOO_LONG]
        # Two levels are the same whichever way both are read, so options count for nothing here.
        wanted = levels_as_they_stand(self.weights_of(p))[:strength]
        return self.first_match(s, wanted, start)

    def key(self, s):
        if is_too_long(s):
            return [TOO_LONG]
        return with_length(key_of(self.levels_of(s)))

    def low(self, s):
        if is_too_long(s):
            return [TOO_LONG]
        return with_length(low_of(self.levels_of(s)))

    def high(self, s):
        if is_too_long(s):
            return [TOO_LONG]
        return with_length(high_of(self.levels_of(s)))

    def place_behind(self, s, at):
        # A slice ends with the text, so a length beyond it would take a shorter entry for a longer one.
        longest = min(LONGEST_SEQUENCE, len(s) - at)
        for length in range(longest, 0, -1):
            if tuple(s[at:at + length]) in self.entries:
                return at + length
        return at + 1

    def weights_at(self, s, at):
        sequence = tuple(s[at:self.place_behind(s, at)])
        if sequence in self.entries:
            return self.entries[sequence]
        return [(UNLISTED + s[at], 1, 1)]

    def joints_of(self, s):
        joints = [0]
        while joints[-1] < len(s):
            joints.append(self.place_behind(s, joints[-1]))
        return joints

    def weights_of(self, s):
        threes = []
        # Nothing stands at the last joint, the text's end.
        for joint in self.joints_of(s)[:-1]:
            threes.extend(self.weights_at(s, joint))
        return threes

    def levels_of(self, s):
        return levels_by_options(self.weights_of(s), self.options)

    def levels_before(self, s, joints):
        threes = []
        before = [levels_as_they_stand(threes)]
        for joint in joints[:-1]:
            threes.extend(self.weights_at(s, joint))
            before.append(levels_as_they_stand(threes))
        return before

    def first_match(self, s, wanted, start):
        joints = self.joints_of(s)
        before = self.levels_before(s, joints)
        allowed = [k for k in range(len(joints)) if joints[k] >= start]
        for last in allowed:
            for first in range(last, allowed[0] - 1, -1):
                if are_between(before[first], before[last], wanted):
                    return [1, joints[first], joints[last]]
        return [0]
