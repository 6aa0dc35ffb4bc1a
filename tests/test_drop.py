import unittest

from shelfnames.table import Table
from tests.helper import add, ask, begin, count, cut, drop


class DropTest(unittest.TestCase):
    def test_one_that_is_there_and_one_that_is_not(self):
        self.assertEqual(ask(drop(b"a"), add(b"a"), drop(b"b"), drop(b"a"), drop(b"a")), [0, 1, 0, 1, 0])

    def test_sequences_that_no_entry_can_have(self):
        for seq in (b"", b"abcdefghi", b"a" * 200):
            self.assertEqual(ask(drop(seq), add(b"abcdefgh"), add(b"a"), drop(seq), count()), [0, 1, 2, 0, 2])

    def test_only_the_very_sequence_goes(self):
        self.assertEqual(
            ask(add(b"a"), add(b"ab"), add(b"abc"), drop(b"ab"), count(), cut(b"ab", 0), cut(b"abc", 0), drop(b"abcd")),
            [1, 2, 3, 1, 2, 1, 3, 0])

    def test_the_longest_and_the_shortest(self):
        self.assertEqual(ask(add(b"abcdefgh"), add(b"\0"), drop(b"abcdefgh"), drop(b"\0"), count()), [1, 2, 1, 1, 0])

    def test_a_dropped_sequence_can_be_added_again(self):
        self.assertEqual(
            ask(add(b"ab", [1, 2, 3]), drop(b"ab"), cut(b"ab", 0), add(b"ab", [4, 5, 6]), cut(b"ab", 0), add(b"ab")),
            [1, 1, 1, 1, 2, -3])

    def test_added_again_with_its_new_weights(self):
        table = Table()
        table.add([1], [1, 2, 3])
        table.drop([1])
        self.assertEqual(table.entries, {})
        table.add([1], [4, 5, 6])
        self.assertEqual(table.entries, {(1,): [(4, 5, 6)]})

    def test_options_stay(self):
        table = Table()
        table.begin(1)
        table.add([1], [])
        table.drop([1])
        table.drop([1])
        self.assertEqual(table.options, 1)

    def test_nothing_to_drop_after_begin(self):
        self.assertEqual(ask(add(b"a"), begin(0), drop(b"a")), [1, 0, 0])


if __name__ == "__main__":
    unittest.main()
