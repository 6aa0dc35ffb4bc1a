"""Writes calls as the interface tells, and takes their answers apart again."""

from shelfnames.shelf import answers

GREATEST = 73786976294838206463


def row(numbers):
    return [len(numbers)] + list(numbers)


def begin(options):
    return [0, options]


def add(seq, w=()):
    return [1] + row(seq) + row(w)


def drop(seq):
    return [2] + row(seq)


def count():
    return [3]


def cut(s, at):
    return [4, at] + row(s)


def joined(calls):
    return [number for call in calls for number in call]


def apart(written):
    parts = []
    place = 0
    while place < len(written):
        end = place + 1 + written[place]
        if end <= place + 1 or end > len(written):
            raise AssertionError(f"no count of an answer's numbers at {place}: {written}")
        parts.append(written[place + 1:end])
        place = end
    return parts


def ask(*calls):
    """The answers to these calls, each of which is one number."""
    parts = apart(answers(joined(calls)))
    if [len(part) for part in parts] != [1] * len(calls):
        raise AssertionError(f"not one number for each call: {parts}")
    return [part[0] for part in parts]
