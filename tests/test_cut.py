import itertools
import unittest

from shelfnames.table import Table
from tests.helper import GREATEST, add, ask, begin, count, cut


def texts(letters, longest):
    for length in range(1, longest + 1):
        for text in itertools.product(letters, repeat=length):
            yield bytes(text)


def longest_at(entries, s, at):
    return max([len(seq) for seq in entries if s[at:].startswith(seq)], default=1)


class CutTest(unittest.TestCase):
    def test_the_longest_of_several_that_begin_alike(self):
        entries = [b"a", b"ab", b"abcd", b"abcdefgh"]
        wanted = {b"a": 1, b"ab": 2, b"abc": 2, b"abcd": 4, b"abcdefg": 4, b"abcdefgh": 8, b"abcdefghi": 8, b"aab": 1}
        for order in (entries, entries[::-1]):
            for s, end in wanted.items():
                self.assertEqual(ask(*[add(seq) for seq in order], cut(s, 0))[-1], end)

    def test_a_longer_entry_without_the_shorter_ones(self):
        self.assertEqual(ask(add(b"abc"), cut(b"abcabc", 0), cut(b"abab", 0), cut(b"abcabc", 3)), [1, 3, 1, 6])

    def test_the_weights_do_not_matter(self):
        self.assertEqual(ask(add(b"ab"), add(b"a", [9] * 12), cut(b"ab", 0)), [1, 2, 2])

    def test_a_place_that_is_not_a_joint(self):
        self.assertEqual(
            ask(add(b"abc"), add(b"bcd"), cut(b"abcd", 0), cut(b"abcd", 1), cut(b"abcd", 2), cut(b"abcd", 3)),
            [1, 2, 3, 4, 3, 4])

    def test_a_byte_that_no_entry_has(self):
        self.assertEqual(ask(cut(b"xyz", 0), add(b"ab"), cut(b"xyz", 1), cut(b"ba", 0)), [1, 1, 2, 1])

    def test_every_byte(self):
        for start in range(0, 256, 64):
            s = list(range(start, start + 64))
            calls = [cut(s, at) for at in range(0, 64, 2)]
            self.assertEqual(ask(*calls), list(range(1, 65, 2)))

    def test_an_entry_that_would_go_on_behind_the_end(self):
        self.assertEqual(
            ask(add(b"ab"), add(b"abcdefgh"), cut(b"abcdefg", 0), cut(b"ab", 0), cut(b"xa", 1), cut(b"abcdefgh", 0)),
            [1, 2, 2, 2, 2, 8])

    def test_at_the_length_and_behind_it(self):
        for at in (3, 4, 64, 65, GREATEST):
            self.assertEqual(ask(add(b"a"), cut(b"abc", at), count()), [1, -1, 1])
        self.assertEqual(ask(cut(b"abc", 2)), [3])

    def test_an_empty_text(self):
        for at in (0, 1, GREATEST):
            self.assertEqual(ask(cut(b"", at)), [-1])

    def test_texts_of_64_and_of_65_bytes(self):
        self.assertEqual(
            ask(add(b"aa"), cut(b"a" * 64, 0), cut(b"a" * 64, 62), cut(b"a" * 64, 63), cut(b"a" * 64, 64)),
            [1, 2, 64, 64, -1])
        self.assertEqual(ask(add(b"aa"), cut(b"a" * 65, 0), cut(b"a" * 65, 64)), [1, -2, -2])
        self.assertEqual(ask(cut(b"a" * 200, 0), cut(b"a" * 200, 199)), [-2, -2])

    def test_a_place_behind_comes_before_too_long(self):
        self.assertEqual(
            ask(cut(b"a" * 65, 65), cut(b"a" * 65, 66), cut(b"a" * 200, 200), cut(b"a" * 65, GREATEST)),
            [-1, -1, -1, -1])

    def test_options_do_not_matter(self):
        for options in (0, 1):
            self.assertEqual(ask(begin(options), add(b"ab"), cut(b"abab", 2)), [0, 1, 4])

    def test_cuts_make_up_the_text_and_each_is_the_longest(self):
        tables = (
            [], [b"a"], [b"ab"], [b"a", b"ab", b"aba"], [b"bab", b"b"], [b"aab", b"ba", b"abba"],
            [b"aaaaa", b"aa", b"abab", b"b"],
        )
        for entries in tables:
            table = Table()
            for seq in entries:
                table.add(list(seq), [1, 1, 1])
            for s in texts(b"ab", 7):
                self.check_cuts(table, entries, s)

    def check_cuts(self, table, entries, s):
        cuts = []
        at = 0
        while at < len(s):
            end = table.cut(list(s), at)
            self.assertEqual(end, at + longest_at(entries, s, at))
            cuts.append(s[at:end])
            at = end
        self.assertEqual(b"".join(cuts), s)


if __name__ == "__main__":
    unittest.main()
