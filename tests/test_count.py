import unittest

from shelfnames.table import Table
from tests.helper import add, ask, begin, count, cut, drop


class CountTest(unittest.TestCase):
    def test_none_at_the_beginning(self):
        self.assertEqual(ask(count()), [0])

    def test_after_add_drop_and_begin(self):
        self.assertEqual(
            ask(count(), add(b"a"), count(), add(b"b"), count(), drop(b"a"), count(), begin(1), count()),
            [0, 1, 1, 2, 2, 1, 1, 0, 0])

    def test_refusals_and_cuts_do_not_count(self):
        self.assertEqual(
            ask(add(b"a"), add(b"a"), add(b""), drop(b"b"), begin(2), cut(b"a", 0), cut(b"", 0), count()),
            [1, -3, -1, 0, -1, 1, -1, 1])

    def test_up_to_64(self):
        table = Table()
        for k in range(70):
            self.assertEqual(table.count(), min(k, 64))
            table.add([k], [])


if __name__ == "__main__":
    unittest.main()
