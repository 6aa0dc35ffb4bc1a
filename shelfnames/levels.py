"""Levels: weights with the zeros left out, how they stand in order, and how they are written as bytes."""

FIRST = 0
SECOND = 1
THIRD = 2

FROM_THE_END = 1

EQUAL = 0
BEFORE = 1
BEHIND = 2


def level(threes, which):
    return [weights[which] for weights in threes if weights[which] != 0]


def levels_as_they_stand(threes):
    return [level(threes, FIRST), level(threes, SECOND), level(threes, THIRD)]


def levels_by_options(threes, options):
    levels = levels_as_they_stand(threes)
    if options == FROM_THE_END:
        levels[SECOND] = list(reversed(levels[SECOND]))
    return levels


# Python orders lists, and lists of lists, as levels are ordered: the first difference decides, and what ends is before
# what goes on.
def order(a, b):
    if a == b:
        return EQUAL
    if a < b:
        return BEFORE
    return BEHIND


# What is before one joint is the beginning of what is before a later one, level by level.
def are_between(before_first, before_last, wanted):
    behind_first = [before_last[k][len(before_first[k]):] for k in range(len(wanted))]
    return behind_first == wanted


def in_bytes(weights):
    written = []
    for weight in weights:
        written.extend([weight // 65536, weight // 256 % 256, weight % 256])
    return written


# No level holds a zero, so a zero weight's three bytes end a level and are before all that could go on there.
def key_of(levels):
    return in_bytes(levels[FIRST] + [0] + levels[SECOND] + [0] + levels[THIRD])


def low_of(levels):
    return in_bytes(levels[FIRST])


def high_of(levels):
    return low_of(levels) + [255, 255, 255]
