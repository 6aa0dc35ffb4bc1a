"""Writes calls as the interface tells, takes their answers apart again, and models the words of the document."""

from shelfnames.shelf import answers
from shelfnames.table import Table

GREATEST = 73786976294838206463


def row(numbers):
    return [len(numbers)] + list(numbers)


def begin(options):
    return [0, options]


def add(seq, w=()):
    return [1] + row(seq) + row(w)


def drop(seq):
    return [2] + row(seq)


def count():
    return [3]


def cut(s, at):
    return [4, at] + row(s)


def compare(a, b, strength):
    return [5, strength] + row(a) + row(b)


def find(s, p, strength, start=0):
    return [6, strength, start] + row(s) + row(p)


def key(s):
    return [7] + row(s)


def low(s):
    return [8] + row(s)


def high(s):
    return [9] + row(s)


def joined(calls):
    return [number for call in calls for number in call]


def apart(written):
    parts = []
    place = 0
    while place < len(written):
        end = place + 1 + written[place]
        if end <= place + 1 or end > len(written):
            raise AssertionError(f"no count of an answer's numbers at {place}: {written}")
        parts.append(written[place + 1:end])
        place = end
    return parts


def ask_rows(*calls):
    """The answers to these calls, a list of numbers each."""
    parts = apart(answers(joined(calls)))
    if len(parts) != len(calls):
        raise AssertionError(f"not one answer for each call: {parts}")
    return parts


def ask(*calls):
    """The answers to these calls, each of which is one number."""
    parts = ask_rows(*calls)
    if [len(part) for part in parts] != [1] * len(calls):
        raise AssertionError(f"not one number for each call: {parts}")
    return [part[0] for part in parts]


def table_of(entries, options=0):
    table = Table()
    table.begin(options)
    for seq, w in entries.items():
        if table.add(list(seq), list(w)) < 0:
            raise AssertionError(f"the entry {seq} is refused")
    return table


def adds(entries):
    return [add(seq, w) for seq, w in entries.items()]


def stands_before(one, other):
    """Whether a level is before another one."""
    for k, weight in enumerate(one):
        if k == len(other):
            return False
        if weight != other[k]:
            return weight < other[k]
    return len(one) < len(other)


class Model:
    """The words of the document, written anew over a list of pairs; it answers a list of numbers for each call."""

    def __init__(self):
        self.options = 0
        self.pairs = []

    def begin(self, options):
        if options not in (0, 1):
            return [-1]
        self.options = options
        self.pairs = []
        return [0]

    def add(self, seq, w):
        if len(w) not in (0, 3, 6, 9, 12) or any(x > 65535 for x in w) or len(seq) not in range(1, 9):
            return [-1]
        if seq in [pair[0] for pair in self.pairs]:
            return [-3]
        if len(self.pairs) == 64:
            return [-4]
        self.pairs.append((seq, w))
        return [len(self.pairs)]

    def drop(self, seq):
        kept = [pair for pair in self.pairs if pair[0] != seq]
        gone = len(self.pairs) - len(kept)
        self.pairs = kept
        return [gone]

    def count(self):
        return [len(self.pairs)]

    def cut(self, s, at):
        if at >= len(s):
            return [-1]
        if len(s) > 64:
            return [-2]
        return [at + len(self.stands_at(s, at)[0])]

    def stands_at(self, s, at):
        fitting = [pair for pair in self.pairs if s[at:at + len(pair[0])] == pair[0]]
        return max(fitting, key=lambda pair: len(pair[0]), default=(s[at:at + 1], [65536 + s[at], 1, 1]))

    def cuts(self, s):
        """Where each cut begins, where it ends, and its weights."""
        found = []
        at = 0
        while at < len(s):
            seq, w = self.stands_at(s, at)
            found.append((at, at + len(seq), w))
            at += len(seq)
        return found

    def levels_of_cuts(self, cuts):
        weights = [weight for first, last, w in cuts for weight in w]
        levels = []
        for k in range(3):
            levels.append([weight for weight in weights[k::3] if weight])
        if self.options:
            levels[1].reverse()
        return levels

    def levels(self, s):
        return self.levels_of_cuts(self.cuts(s))

    def compare(self, a, b, strength):
        if strength not in (1, 2, 3):
            return [-1]
        if max(len(a), len(b)) > 64:
            return [-2]
        for one, other in list(zip(self.levels(a), self.levels(b)))[:strength]:
            if stands_before(one, other):
                return [1]
            if stands_before(other, one):
                return [2]
        return [0]

    def matches(self, s, p, strength, start):
        cuts = self.cuts(s)
        joints = [0] + [last for first, last, w in cuts]
        wanted = self.levels(p)[:strength]
        pairs = [(i, j) for i in joints for j in joints if start <= i <= j]
        return [(i, j) for i, j in pairs if self.levels_between(cuts, i, j)[:strength] == wanted]

    def levels_between(self, cuts, i, j):
        return self.levels_of_cuts([cut for cut in cuts if i <= cut[0] and cut[1] <= j])

    def find(self, s, p, strength, start):
        if strength not in (1, 2, 3):
            return [-1]
        if max(len(s), len(p)) > 64:
            return [-2]
        found = self.matches(s, p, strength, start)
        if not found:
            return [0]
        soonest = min(j for i, j in found)
        return [1, max(i for i, j in found if j == soonest), soonest]

    def key(self, s):
        if len(s) > 64:
            return [-2]
        levels = [b"".join(weight.to_bytes(3, "big") for weight in level) for level in self.levels(s)]
        return row((b"\0" * 3).join(levels))

    def low(self, s):
        if len(s) > 64:
            return [-2]
        return row(b"".join(weight.to_bytes(3, "big") for weight in self.levels(s)[0]))

    def high(self, s):
        if len(s) > 64:
            return [-2]
        return row(self.low(s)[1:] + [255, 255, 255])
