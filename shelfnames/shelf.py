"""A list of calls on one new table, answered one behind another."""

from shelfnames.table import Table

BEGIN = 0
ADD = 1
DROP = 2
COUNT = 3
CUT = 4
COMPARE = 5
FIND = 6
KEY = 7
LOW = 8
HIGH = 9


class UnknownCall(ValueError):
    pass


class Reader:
    def __init__(self, calls):
        self.calls = calls
        self.place = 0

    def has_more(self):
        return self.place < len(self.calls)

    def take_number(self):
        number = self.calls[self.place]
        self.place += 1
        return number

    # A slice is a copy, so nothing that is kept is a part of what was handed in.
    def take_row(self):
        length = self.take_number()
        start = self.place
        self.place += length
        return self.calls[start:self.place]


def answer_add(table, reader):
    seq = reader.take_row()
    w = reader.take_row()
    return [table.add(seq, w)]


def answer_cut(table, reader):
    at = reader.take_number()
    s = reader.take_row()
    return [table.cut(s, at)]


def answer_compare(table, reader):
    strength = reader.take_number()
    a = reader.take_row()
    b = reader.take_row()
    return [table.compare(a, b, strength)]


def answer_find(table, reader):
    strength = reader.take_number()
    start = reader.take_number()
    s = reader.take_row()
    p = reader.take_row()
    return table.find(s, p, strength, start)


def answer(table, reader):
    call = reader.take_number()
    if call == BEGIN:
        return [table.begin(reader.take_number())]
    if call == ADD:
        return answer_add(table, reader)
    if call == DROP:
        return [table.drop(reader.take_row())]
    if call == COUNT:
        return [table.count()]
    if call == CUT:
        return answer_cut(table, reader)
    if call == COMPARE:
        return answer_compare(table, reader)
    if call == FIND:
        return answer_find(table, reader)
    if call == KEY:
        return table.key(reader.take_row())
    if call == LOW:
        return table.low(reader.take_row())
    if call == HIGH:
        return table.high(reader.take_row())
    raise UnknownCall(f"the call {call} is not known")


def answers(calls):
    table = Table()
    reader = Reader(calls)
    written = []
    while reader.has_more():
        answered = answer(table, reader)
        written.append(len(answered))
        written.extend(answered)
    return written
