import unittest

from shelfnames.table import Table
from tests.helper import GREATEST, add, ask, begin, count, cut


class BeginTest(unittest.TestCase):
    def test_options_0_and_1_are_taken(self):
        self.assertEqual(ask(begin(0)), [0])
        self.assertEqual(ask(begin(1)), [0])

    def test_options_above_1_are_refused(self):
        for options in (2, 3, 65536, 2 ** 64, GREATEST):
            self.assertEqual(ask(begin(options)), [-1])

    def test_a_taken_begin_leaves_no_entries(self):
        for options in (0, 1):
            self.assertEqual(
                ask(add(b"ab"), cut(b"ab", 0), begin(options), count(), cut(b"ab", 0), add(b"ab")),
                [1, 2, 0, 0, 1, 1])

    def test_a_refused_begin_leaves_the_entries(self):
        for options in (2, GREATEST):
            self.assertEqual(
                ask(add(b"ab"), begin(options), count(), cut(b"ab", 0), add(b"ab")),
                [1, -1, 1, 2, -3])

    def test_options_are_kept(self):
        table = Table()
        self.assertEqual(table.options, 0)
        table.begin(1)
        self.assertEqual(table.options, 1)
        table.begin(0)
        self.assertEqual(table.options, 0)

    def test_a_refused_begin_leaves_the_options(self):
        for options in (0, 1):
            for above in (2, GREATEST):
                table = Table()
                table.begin(options)
                self.assertEqual(table.begin(above), -1)
                self.assertEqual(table.options, options)


if __name__ == "__main__":
    unittest.main()
