import random
import sys
import unittest

from shelfnames.shelf import UnknownCall, answers
from tests.helper import (
    GREATEST, Model, add, apart, begin, compare, count, cut, drop, find, high, joined, key, low, row,
)


class Unchangeable(list):
    """A list that can be read only, so that a change for a while is seen too."""

    def refuse(self, *args, **kwargs):
        raise AssertionError("what was handed in is changed")

    append = extend = insert = pop = remove = clear = sort = reverse = refuse
    __setitem__ = __delitem__ = __iadd__ = __imul__ = refuse


# What the texts of a history are made of: few letters, so that entries fit often, and one that is listed never.
LETTERS = b"aabbc\xff"


def some_text(source, longest):
    return bytes(source.choice(LETTERS) for k in range(source.randint(0, longest)))


def some_seq(source):
    return bytes(source.choice(b"abc") for k in range(source.choice([0, 1, 1, 1, 1, 2, 2, 2, 3, 4, 8, 9])))


def some_weights(source):
    size = source.choice([0, 3, 3, 3, 3, 3, 6, 9, 12, 4, 15])
    greatest = source.choice([65535] * 9 + [65536])
    return [source.choice([0, 0, 1, 1, 2, 3, 256, greatest]) for k in range(size)]


def some_given(source, kind, lengths):
    """What a call of that kind is given; its first text is of one of these lengths."""
    s = bytes(source.choice(LETTERS) for k in range(source.choice(lengths)))
    other = some_text(source, source.choice([1, 2, 3, 6]))
    strength = source.choice([1, 1, 2, 2, 3, 3, 3, 0, 4, GREATEST])
    place = source.choice([0, 0, source.randint(0, len(s) + 1), GREATEST])
    return {
        "begin": (source.choice([0, 1, 2, 2, 2, GREATEST]),),
        "add": (some_seq(source), some_weights(source)),
        "drop": (some_seq(source),),
        "count": (),
        "cut": (s, place),
        "compare": source.choice([(s, other, strength), (other, s, strength)]),
        "find": (s, other, strength, place),
        "key": (s,),
        "low": (s,),
        "high": (s,),
    }[kind]


WRITERS = {
    "begin": begin, "add": add, "drop": drop, "count": count, "cut": cut,
    "compare": compare, "find": find, "key": key, "low": low, "high": high,
}

# Begins and drops are rarer, so that tables fill up.
KINDS = list(WRITERS) + ["add"] * 8 + ["drop"] + ["compare"] * 3 + ["find"] * 3 + ["key"]


SHORT = list(range(10))
LONG = [20, 40, 63, 64, 64, 65, 66, 200]


def some_history(source, lengths):
    """A list of calls, and what the words answer to it."""
    model = Model()
    calls = []
    wanted = []
    for k in range(source.choice([1, 5, 20, 60, 60])):
        kind = source.choice(KINDS)
        if kind == "begin" and source.choice([True, True, False]):
            kind = "add"
        given = some_given(source, kind, lengths)
        call = WRITERS[kind](*given)
        if len(calls) + len(call) > 3000:
            break
        calls = calls + call
        wanted.append(getattr(model, kind)(*given))
    return calls, wanted


def depth():
    frames = 0
    frame = sys._getframe()
    while frame is not None:
        frames += 1
        frame = frame.f_back
    return frames


class AnswersTest(unittest.TestCase):
    def test_each_answer_has_its_length_before_it(self):
        self.assertEqual(answers([3]), [1, 0])
        self.assertEqual(
            answers([0, 1, 1, 2, 97, 98, 3, 1, 2, 3, 1, 2, 97, 98, 0, 3, 4, 0, 3, 97, 98, 99, 4, 3, 3, 97, 98, 99,
                     2, 2, 97, 98, 2, 0, 0, 2]),
            [1, 0, 1, 1, 1, -3, 1, 1, 1, 2, 1, -1, 1, 1, 1, 0, 1, -1])
        self.assertEqual(
            answers([1, 1, 97, 3, 1, 2, 3, 5, 3, 1, 97, 1, 98, 6, 1, 0, 2, 98, 97, 1, 97, 6, 2, 0, 1, 97, 1, 99,
                     7, 1, 97, 8, 1, 97, 9, 1, 97, 8, 0, 9, 0, 7, 0, 5, 0, 0, 0, 6, 4, 0, 0, 0, 3]),
            [1, 1, 1, 1, 3, 1, 1, 2, 1, 0, 16, 15, 0, 0, 1, 0, 0, 0, 0, 0, 2, 0, 0, 0, 0, 0, 3, 4, 3, 0, 0, 1,
             7, 6, 0, 0, 1, 255, 255, 255, 1, 0, 4, 3, 255, 255, 255, 7, 6, 0, 0, 0, 0, 0, 0, 1, -1, 1, -1, 1, 1])

    def test_rows_that_look_like_calls(self):
        self.assertEqual(answers(add([3, 3, 3], [3, 3, 3]) + cut([0, 3, 3, 3], 1) + drop([3, 3, 3])), [1, 1, 1, 4, 1, 1])

    def test_refused_rows_are_read_to_their_end(self):
        calls = joined([add([3] * 200, [3] * 200), add([], [3] * 200), drop([3] * 200), cut([3] * 200, 3), count()])
        self.assertEqual(answers(calls), [1, -1, 1, -1, 1, 0, 1, -2, 1, 0])
        long = [3] * 200
        calls = joined([compare(long, long, 3), compare(long, [3], 0), find(long, long, 3, 3), find([3], long, 9, 3),
                        key(long), low(long), high(long), count()])
        self.assertEqual(answers(calls), [1, -2, 1, -1, 1, -2, 1, -1, 1, -2, 1, -2, 1, -2, 1, 0])

    def test_sixty_calls(self):
        calls = joined([add([k, 1, 2, 3, 4, 5, 6, 7], [k] * 12) for k in range(60)])
        self.assertEqual(answers(calls), joined([1, k + 1] for k in range(60)))

    def test_three_thousand_numbers(self):
        calls = joined([cut([1] * 197, 1)] * 15)
        self.assertEqual(len(calls), 3000)
        self.assertEqual(answers(calls), [1, -2] * 15)

    def test_three_thousand_numbers_of_long_texts(self):
        entry = add([1], [1, 2, 3] * 4)
        finds = [find([1] * 64, [1] * 63 + [k], 3) for k in range(2, 24)]
        calls = joined([entry] + finds + [cut([1] * 55, 0)])
        self.assertEqual(len(calls), 3000)
        self.assertEqual(answers(calls), [1, 1] + [1, 0] * 22 + [1, 1])

    def test_calls_are_gone_through_by_a_loop(self):
        long = [1] * 64
        asked = [cut(long, 0), compare(long, long, 3), find(long, [100], 3), key(long), low(long), high(long)]
        calls = joined([add([k], []) for k in range(54)] + asked)
        limit = sys.getrecursionlimit()
        sys.setrecursionlimit(depth() + 30)
        try:
            written = answers(calls)
        finally:
            sys.setrecursionlimit(limit)
        self.assertEqual(
            apart(written),
            [[k + 1] for k in range(54)] + [[1], [0], [0], row([0] * 6), row([]), row([255, 255, 255])])

    def test_the_list_is_as_it_was(self):
        calls = joined([begin(1), add(b"ab", [1, 2, 3]), add(b"ab"), cut(b"abab", 2), compare(b"ab", b"ba", 3),
                        find(b"bab", b"ab", 3, 1), low(b"ab"), high(b"ab"), key(b"ab"), drop(b"ab"), begin(GREATEST),
                        count()])
        handed = Unchangeable(calls)
        self.assertEqual(
            apart(answers(handed)),
            [[0], [1], [-3], [4], [1], [1, 1, 3], row([0, 0, 1]), row([0, 0, 1, 255, 255, 255]),
             row([0, 0, 1, 0, 0, 0, 0, 0, 2, 0, 0, 0, 0, 0, 3]), [1], [-1], [0]])
        self.assertEqual(list(handed), calls)

    def test_nothing_is_kept_from_one_time_to_the_next(self):
        calls = joined([count(), add(b"ab", [1, 2, 3]), cut(b"ab", 0), begin(2), count()])
        first = answers(calls)
        self.assertEqual(first, [1, 0, 1, 1, 1, 2, 1, -1, 1, 1])
        first.append(5)
        self.assertEqual(answers(calls), [1, 0, 1, 1, 1, 2, 1, -1, 1, 1])
        self.assertEqual(answers(count() + cut(b"ab", 0)), [1, 0, 1, 1])

    def test_a_second_list_starts_anew_with_options_0(self):
        marks = [add(b"1", [1, 1, 1]), add(b"2", [1, 2, 1]), compare(b"12", b"21", 2), low(b"1")]
        fresh = [[1], [2], [1], row([0, 0, 1])]
        for k in range(2):
            self.assertEqual(apart(answers(joined(marks))), fresh)
            self.assertEqual(apart(answers(joined([begin(1)] + marks))), [[0], [1], [2], [2], row([0, 0, 1])])
            self.assertEqual(apart(answers(count() + low(b"1"))), [[0], row([1, 0, 49])])

    def test_answers_are_not_shared(self):
        calls = joined([key(b""), low(b"a"), high(b""), find(b"a", b"a", 1)])
        first = answers(calls)
        kept = list(first)
        first[2:] = [9] * 20
        self.assertEqual(answers(calls), kept)

    def test_whole_numbers_alone_are_given_back(self):
        written = answers(joined([begin(1), add(b"a"), drop(b"a"), drop(b"a"), count(), cut(b"a", 0), cut(b"", 0),
                                  compare(b"a", b"b", 1), compare(b"a", b"a", 1), compare(b"b", b"a", 1),
                                  find(b"ab", b"b", 3), find(b"ab", b"c", 3), key(b"ab"), low(b"ab"), high(b"ab")]))
        self.assertIs(type(written), list)
        self.assertEqual({type(number) for number in written}, {int})

    def test_a_number_that_no_call_has(self):
        for call in (10, 11, GREATEST):
            with self.assertRaises(UnknownCall):
                answers([call])

    def test_histories_go_as_the_words_say(self):
        source = random.Random(1116)
        for history in range(500):
            calls, wanted = some_history(source, SHORT)
            self.assertEqual(apart(answers(Unchangeable(calls))), wanted, calls)

    def test_histories_with_long_texts(self):
        source = random.Random(1118)
        sizes = []
        for history in range(60):
            calls, wanted = some_history(source, LONG)
            self.assertEqual(apart(answers(Unchangeable(calls))), wanted, calls)
            sizes.append(len(calls))
        self.assertGreater(max(sizes), 2900)

    def test_histories_one_behind_another_know_nothing_of_each_other(self):
        source = random.Random(1117)
        histories = [some_history(source, SHORT) for k in range(40)]
        for calls, wanted in histories + histories[::-1]:
            self.assertEqual(apart(answers(calls)), wanted, calls)


if __name__ == "__main__":
    unittest.main()
