import unittest

from tests.helper import GREATEST, add, adds, ask_rows, begin, count, cut, drop, find

STRENGTHS = (1, 2, 3)

# A is a but for the third weight, @ is a but for the second; ^ has only a second weight, - has only a third,
# . has no elements, * has one of no weights, & is a and b at once, ch is one letter.
ENTRIES = {
    b"a": [10, 5, 5],
    b"A": [10, 5, 6],
    b"@": [10, 6, 5],
    b"b": [20, 5, 5],
    b"c": [30, 5, 5],
    b"h": [40, 5, 5],
    b"ch": [35, 5, 5],
    b"^": [0, 3, 0],
    b"-": [0, 0, 4],
    b".": [],
    b"*": [0, 0, 0],
    b"&": [10, 5, 5, 20, 5, 5],
}


def found(s, p, strength, start=0, entries=ENTRIES, options=0):
    return ask_rows(begin(options), *adds(entries), find(s, p, strength, start))[-1]


class FindTest(unittest.TestCase):
    def check(self, s, p, wanted, start=0, entries=ENTRIES):
        """What is answered at the strengths 1, 2 and 3, with either options."""
        for options in (0, 1):
            answered = [found(s, p, strength, start, entries, options) for strength in STRENGTHS]
            self.assertEqual(answered, [list(numbers) for numbers in wanted], (s, p, start, options))

    def test_found_and_not_found(self):
        self.check(b"abc", b"b", [(1, 1, 2)] * 3)
        self.check(b"abc", b"ab", [(1, 0, 2)] * 3)
        self.check(b"abc", b"bc", [(1, 1, 3)] * 3)
        self.check(b"abc", b"abc", [(1, 0, 3)] * 3)
        self.check(b"abc", b"ac", [(0,)] * 3)
        self.check(b"abc", b"abca", [(0,)] * 3)
        self.check(b"xyz", b"y", [(1, 1, 2)] * 3, entries={})
        self.check(b"xyz", b"zy", [(0,)] * 3, entries={})

    def test_the_strengths(self):
        self.check(b"@Aa", b"a", [(1, 0, 1), (1, 1, 2), (1, 2, 3)])
        self.check(b"@A", b"a", [(1, 0, 1), (1, 1, 2), (0,)])
        self.check(b"b@", b"a", [(1, 1, 2), (0,), (0,)])
        self.check(b"ab@bab", b"@b", [(1, 0, 2), (1, 2, 4), (1, 2, 4)])

    def test_of_several_the_one_that_ends_first(self):
        self.check(b"bababa", b"a", [(1, 1, 2)] * 3)
        self.check(b"aaaa", b"aa", [(1, 0, 2)] * 3)
        self.check(b"ababab", b"ab", [(1, 2, 4)] * 3, start=1)

    def test_of_those_that_end_there_the_one_that_begins_last(self):
        self.check(b".*a", b"a", [(1, 2, 3)] * 3)
        self.check(b"^a", b"a", [(1, 1, 2)] * 3)
        self.check(b"--a", b"a", [(1, 2, 3)] * 3)
        self.check(b"..aa", b"aa", [(1, 2, 4)] * 3)

    def test_cuts_of_no_weights_at_the_edges_are_left_out(self):
        self.check(b"b.*a*.b", b"a", [(1, 3, 4)] * 3)
        self.check(b"a*b", b"a", [(1, 0, 1)] * 3)
        self.check(b"b^-a-^b", b"a", [(1, 3, 4)] * 3)
        self.check(b".ab.", b"*a.b*", [(1, 1, 3)] * 3)

    def test_cuts_of_no_weights_within_are_gone_over(self):
        self.check(b"ba.*b", b"ab", [(1, 1, 5)] * 3)
        self.check(b"ba^-b", b"ab", [(1, 1, 5), (0,), (0,)])
        self.check(b"ba-b", b"ab", [(1, 1, 4), (1, 1, 4), (0,)])
        self.check(b"ba-b", b"a-b", [(1, 1, 4)] * 3)

    def test_weights_at_the_edges_that_are_looked_for(self):
        self.check(b"ba^", b"a^", [(1, 1, 2), (1, 1, 3), (1, 1, 3)])
        self.check(b"^a", b"^a", [(1, 1, 2), (1, 0, 2), (1, 0, 2)])
        self.check(b"a-.b", b"a-", [(1, 0, 1), (1, 0, 1), (1, 0, 2)])
        self.check(b"a^-b", b"a-^", [(1, 0, 1), (1, 0, 2), (1, 0, 3)])

    def test_an_entry_of_several_elements_is_not_parted(self):
        self.check(b"b&b", b"ab", [(1, 1, 2)] * 3)
        self.check(b"ab", b"&", [(1, 0, 2)] * 3)
        self.check(b"&", b"a", [(0,)] * 3)
        self.check(b"&", b"b", [(0,)] * 3)
        self.check(b"&&", b"ba", [(0,)] * 3)
        self.check(b"&ab", b"b", [(1, 2, 3)] * 3)

    def test_places_that_are_not_joints_are_never_answered(self):
        self.check(b"ach", b"c", [(0,)] * 3)
        self.check(b"ach", b"h", [(0,)] * 3)
        self.check(b"ach", b"ac", [(0,)] * 3)
        self.check(b"chc", b"c", [(1, 2, 3)] * 3)
        self.check(b"hch", b"ch", [(1, 1, 3)] * 3)
        self.check(b"chh", b"h", [(1, 2, 3)] * 3)

    def test_the_cuts_are_those_of_the_whole_text(self):
        entries = {b"ab": [1, 1, 1], b"bc": [2, 1, 1], b"c": [3, 1, 1], b"abcd": [4, 1, 1], b"d": [5, 1, 1]}
        self.check(b"abc", b"bc", [(0,)] * 3, entries=entries)
        self.check(b"abc", b"bc", [(0,)] * 3, start=1, entries=entries)
        self.check(b"abc", b"c", [(1, 2, 3)] * 3, start=1, entries=entries)
        self.check(b"abcd", b"ab", [(0,)] * 3, entries=entries)
        self.check(b"abcd", b"d", [(0,)] * 3, entries=entries)
        self.check(b"abcdd", b"d", [(1, 4, 5)] * 3, start=3, entries=entries)
        self.check(b"abbcd", b"bc", [(1, 2, 4)] * 3, entries=entries)

    def test_from_a_place_on(self):
        self.check(b"abab", b"a", [(1, 2, 3)] * 3, start=1)
        self.check(b"abab", b"a", [(1, 2, 3)] * 3, start=2)
        self.check(b"abab", b"a", [(0,)] * 3, start=3)
        self.check(b"abab", b"ab", [(0,)] * 3, start=3)
        self.check(b"abab", b"b", [(1, 3, 4)] * 3, start=3)

    def test_what_begins_before_the_place_does_not_count(self):
        self.check(b"a.b", b"ab", [(0,)] * 3, start=1)
        self.check(b"^a", b"^a", [(1, 1, 2), (0,), (0,)], start=1)
        self.check(b"..a", b"", [(1, 2, 2)] * 3, start=2)

    def test_from_a_place_that_is_no_joint(self):
        self.check(b"chch", b"ch", [(1, 2, 4)] * 3, start=1)
        self.check(b"chch", b"ch", [(0,)] * 3, start=3)
        self.check(b"cha", b"a", [(1, 2, 3)] * 3, start=1)
        self.check(b"cha", b"", [(1, 2, 2)] * 3, start=1)
        self.check(b"ch", b"", [(1, 2, 2)] * 3, start=1)

    def test_from_the_end_and_from_beyond_it(self):
        self.check(b"ab", b"b", [(0,)] * 3, start=2)
        self.check(b"ab", b"", [(1, 2, 2)] * 3, start=2)
        for start in (3, 64, 65, 2 ** 64, GREATEST):
            self.check(b"ab", b"b", [(0,)] * 3, start=start)
            self.check(b"ab", b"", [(0,)] * 3, start=start)
            self.check(b"", b"", [(0,)] * 3, start=start)

    def test_nothing_is_found_at_the_first_joint(self):
        for p in (b"", b".", b"*", b".*."):
            self.check(b"ab", p, [(1, 0, 0)] * 3)
            self.check(b"ab", p, [(1, 1, 1)] * 3, start=1)
            self.check(b".*ab", p, [(1, 0, 0)] * 3)

    def test_no_weights_at_that_strength(self):
        self.check(b"ab", b"^", [(1, 0, 0), (0,), (0,)])
        self.check(b"ab", b"-", [(1, 0, 0), (1, 0, 0), (0,)])
        self.check(b"b-^", b"^", [(1, 0, 0), (1, 2, 3), (1, 2, 3)])
        self.check(b"b^-", b"-", [(1, 0, 0), (1, 0, 0), (1, 2, 3)])
        self.check(b"b^-", b"^-", [(1, 0, 0), (1, 1, 2), (1, 1, 3)])

    def test_empty_texts(self):
        self.check(b"", b"", [(1, 0, 0)] * 3)
        self.check(b"", b".*", [(1, 0, 0)] * 3)
        self.check(b"", b"^", [(1, 0, 0), (0,), (0,)])
        self.check(b"", b"-", [(1, 0, 0), (1, 0, 0), (0,)])
        self.check(b"", b"a", [(0,)] * 3)
        self.check(b"", b"", [(1, 0, 0)] * 3, entries={})

    def test_the_second_level_is_looked_at_in_its_order(self):
        self.check(b"a@", b"@a", [(1, 0, 2), (0,), (0,)])
        self.check(b"a@a", b"@a", [(1, 0, 2), (1, 1, 3), (1, 1, 3)])
        self.check(b"@a@", b"a@", [(1, 0, 2), (1, 1, 3), (1, 1, 3)])
        self.check(b"Aa", b"aA", [(1, 0, 2), (1, 0, 2), (0,)])

    def test_unlisted_bytes(self):
        self.check(b"zyz", b"yz", [(1, 1, 3)] * 3)
        self.check(b"z.y", b"zy", [(1, 0, 3)] * 3)
        self.check(b"\0\xff", b"\xff", [(1, 1, 2)] * 3)
        marks = {b"1": [0, 1, 1]}
        self.check(b"1y", b"y1", [(1, 1, 2), (1, 0, 2), (1, 0, 2)], entries=marks)

    def test_add_and_drop_between(self):
        asked = find(b"ach", b"h", 1)
        self.assertEqual(
            ask_rows(asked, add(b"ch", [1, 1, 1]), asked, drop(b"ch"), asked, add(b"h"), asked, count()),
            [[1, 2, 3], [1], [0], [1], [1, 2, 3], [1], [1, 0, 0], [1]])

    def test_a_long_text(self):
        self.check(b"a" * 63 + b"b", b"b", [(1, 63, 64)] * 3)
        self.check(b"a" * 64, b"a" * 64, [(1, 0, 64)] * 3)
        self.check(b"a" * 63, b"a" * 64, [(0,)] * 3)
        self.check(b"." * 63 + b"a", b"a" + b"." * 63, [(1, 63, 64)] * 3)

    def test_find_changes_nothing(self):
        self.assertEqual(
            ask_rows(add(b"ab", [1, 1, 1]), find(b"ab", b"b", 1), find(b"ab", b"b", 0), count(), cut(b"ab", 0)),
            [[1], [0], [-1], [1], [2]])


class RefusedFindTest(unittest.TestCase):
    def test_strengths(self):
        for strength in (0, 4, 5, 255, 2 ** 32 + 1, 2 ** 64 + 1, GREATEST):
            self.assertEqual(
                ask_rows(find(b"ab", b"a", strength), find(b"", b"", strength), find(b"a", b"a", strength, GREATEST)),
                [[-1]] * 3)

    def test_more_than_64_bytes(self):
        for strength in STRENGTHS:
            for length in (65, 66, 200):
                long = b"a" * length
                self.assertEqual(
                    ask_rows(find(long, b"a", strength), find(b"a", long, strength), find(long, long, strength),
                             find(b"", long, strength), find(long, b"", strength, GREATEST)),
                    [[-2]] * 5)

    def test_the_strength_comes_before_the_length(self):
        for strength in (0, 4, GREATEST):
            self.assertEqual(
                ask_rows(find(b"a" * 65, b"a", strength), find(b"a", b"a" * 200, strength),
                         find(b"a" * 65, b"a" * 65, strength, GREATEST)),
                [[-1]] * 3)

    def test_64_bytes_are_not_refused(self):
        for strength in STRENGTHS:
            self.assertEqual(
                ask_rows(find(b"a" * 64, b"a", strength, 63), find(b"a", b"a" * 64, strength),
                         find(b"a" * 64, b"a" * 64, strength), find(b"a" * 64, b"", strength, 64)),
                [[1, 63, 64], [0], [1, 0, 64], [1, 64, 64]])


if __name__ == "__main__":
    unittest.main()
