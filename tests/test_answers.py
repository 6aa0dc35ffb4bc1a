import random
import sys
import unittest

from shelfnames.shelf import UnknownCall, answers
from tests.helper import GREATEST, add, apart, begin, count, cut, drop, joined


class Unchangeable(list):
    """A list that can be read only, so that a change for a while is seen too."""

    def refuse(self, *args, **kwargs):
        raise AssertionError("what was handed in is changed")

    append = extend = insert = pop = remove = clear = sort = reverse = refuse
    __setitem__ = __delitem__ = __iadd__ = __imul__ = refuse


class Model:
    """The words of the document, written anew over a list of pairs."""

    def __init__(self):
        self.pairs = []

    def begin(self, options):
        if options not in (0, 1):
            return -1
        self.pairs = []
        return 0

    def add(self, seq, w):
        if len(w) not in (0, 3, 6, 9, 12) or any(x > 65535 for x in w) or len(seq) not in range(1, 9):
            return -1
        if seq in [pair[0] for pair in self.pairs]:
            return -3
        self.pairs.append((seq, w))
        return len(self.pairs)

    def drop(self, seq):
        kept = [pair for pair in self.pairs if pair[0] != seq]
        gone = len(self.pairs) - len(kept)
        self.pairs = kept
        return gone

    def count(self):
        return len(self.pairs)

    def cut(self, s, at):
        if at >= len(s):
            return -1
        if len(s) > 64:
            return -2
        fitting = [len(seq) for seq, w in self.pairs if s[at:at + len(seq)] == seq]
        return at + max(fitting + [1])


def some_text(source, longest):
    return bytes(source.choice(b"ab") for k in range(source.randint(0, longest)))


def some_call(source):
    """A call as it is written, its name, and what it is given."""
    kind = source.choice(["add", "add", "add", "drop", "cut", "cut", "cut", "count", "begin"])
    if kind == "add":
        w = [source.choice([0, 1, 65535, 65535, 65536]) for k in range(source.choice([0, 3, 3, 6, 12, 4, 15]))]
        given = (some_text(source, source.choice([2, 4, 9])), w)
        return add(*given), kind, given
    if kind == "drop":
        given = (some_text(source, 3),)
        return drop(*given), kind, given
    if kind == "cut":
        s = some_text(source, source.choice([4, 12, 12, 66]))
        given = (s, source.choice([0, source.randint(0, len(s) + 1)]))
        return cut(*given), kind, given
    if kind == "count":
        return count(), kind, ()
    given = (source.choice([0, 1, 2, 2, 2, GREATEST]),)
    return begin(*given), kind, given


def depth():
    frames = 0
    frame = sys._getframe()
    while frame is not None:
        frames += 1
        frame = frame.f_back
    return frames


class AnswersTest(unittest.TestCase):
    def test_each_answer_has_its_length_before_it(self):
        self.assertEqual(answers([3]), [1, 0])
        self.assertEqual(
            answers([0, 1, 1, 2, 97, 98, 3, 1, 2, 3, 1, 2, 97, 98, 0, 3, 4, 0, 3, 97, 98, 99, 4, 3, 3, 97, 98, 99,
                     2, 2, 97, 98, 2, 0, 0, 2]),
            [1, 0, 1, 1, 1, -3, 1, 1, 1, 2, 1, -1, 1, 1, 1, 0, 1, -1])

    def test_rows_that_look_like_calls(self):
        self.assertEqual(answers(add([3, 3, 3], [3, 3, 3]) + cut([0, 3, 3, 3], 1) + drop([3, 3, 3])), [1, 1, 1, 4, 1, 1])

    def test_refused_rows_are_read_to_their_end(self):
        calls = joined([add([3] * 200, [3] * 200), add([], [3] * 200), drop([3] * 200), cut([3] * 200, 3), count()])
        self.assertEqual(answers(calls), [1, -1, 1, -1, 1, 0, 1, -2, 1, 0])

    def test_sixty_calls(self):
        calls = joined([add([k, 1, 2, 3, 4, 5, 6, 7], [k] * 12) for k in range(60)])
        self.assertEqual(answers(calls), joined([1, k + 1] for k in range(60)))

    def test_three_thousand_numbers(self):
        calls = joined([cut([1] * 197, 1)] * 15)
        self.assertEqual(len(calls), 3000)
        self.assertEqual(answers(calls), [1, -2] * 15)

    def test_calls_are_gone_through_by_a_loop(self):
        calls = joined([add([k], []) for k in range(59)] + [cut([1] * 64, 0)])
        limit = sys.getrecursionlimit()
        sys.setrecursionlimit(depth() + 30)
        try:
            written = answers(calls)
        finally:
            sys.setrecursionlimit(limit)
        self.assertEqual(written, joined([1, k + 1] for k in range(59)) + [1, 1])

    def test_the_list_is_as_it_was(self):
        calls = joined([begin(1), add(b"ab", [1, 2, 3]), add(b"ab"), cut(b"abab", 2), drop(b"ab"), begin(GREATEST), count()])
        handed = Unchangeable(calls)
        self.assertEqual(answers(handed), [1, 0, 1, 1, 1, -3, 1, 4, 1, 1, 1, -1, 1, 0])
        self.assertEqual(list(handed), calls)

    def test_nothing_is_kept_from_one_time_to_the_next(self):
        calls = joined([count(), add(b"ab", [1, 2, 3]), cut(b"ab", 0), begin(2), count()])
        first = answers(calls)
        self.assertEqual(first, [1, 0, 1, 1, 1, 2, 1, -1, 1, 1])
        first.append(5)
        self.assertEqual(answers(calls), [1, 0, 1, 1, 1, 2, 1, -1, 1, 1])
        self.assertEqual(answers(count() + cut(b"ab", 0)), [1, 0, 1, 1])

    def test_whole_numbers_alone_are_given_back(self):
        written = answers(joined([begin(1), add(b"a"), drop(b"a"), drop(b"a"), count(), cut(b"a", 0), cut(b"", 0)]))
        self.assertIs(type(written), list)
        self.assertEqual({type(number) for number in written}, {int})

    def test_a_number_that_no_call_has(self):
        for call in (10, 11, GREATEST):
            with self.assertRaises(UnknownCall):
                answers([call])

    def test_histories_go_as_the_words_say(self):
        source = random.Random(1116)
        for history in range(1500):
            model = Model()
            calls = []
            wanted = []
            for k in range(source.randint(1, 60)):
                call, kind, given = some_call(source)
                calls.append(call)
                wanted.append([getattr(model, kind)(*given)])
            self.assertEqual(apart(answers(joined(calls))), wanted, calls)


if __name__ == "__main__":
    unittest.main()
