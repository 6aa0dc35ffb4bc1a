import unittest

from shelfnames.table import Table
from tests.helper import GREATEST, add, ask, begin, count, cut, drop

UNFIT_WEIGHTS = (
    [1], [1, 1], [1, 1, 1, 1], [1] * 11, [1] * 13, [1] * 14, [1] * 15, [0] * 15, [1] * 200,
    [65536, 1, 1], [1, 65536, 1], [1, 1, 65536], [1] * 11 + [65536], [GREATEST, 0, 0], [0, 0, GREATEST],
)


def full_table():
    table = Table()
    for k in range(64):
        table.add([k], [k, 1, 1])
    return table


class AddTest(unittest.TestCase):
    def test_answers_how_many_entries_there_are_then(self):
        self.assertEqual(ask(add(b"a"), add(b"b"), add(b"ab"), drop(b"a"), add(b"c")), [1, 2, 3, 1, 3])

    def test_from_none_to_four_elements(self):
        for elements in range(5):
            self.assertEqual(ask(add(b"a", [7] * (3 * elements)), count(), cut(b"ab", 0)), [1, 1, 1])

    def test_unfit_weights(self):
        for w in UNFIT_WEIGHTS:
            self.assertEqual(ask(add(b"a", w), count()), [-1, 0])

    def test_weights_to_the_greatest(self):
        for w in ([0, 0, 0], [65535, 1, 1], [1, 65535, 1], [1, 1, 65535], [65535] * 12):
            self.assertEqual(ask(add(b"a", w), count()), [1, 1])

    def test_lengths_of_the_sequence(self):
        for length, answered in ((0, -1), (1, 1), (2, 1), (7, 1), (8, 1), (9, -1), (10, -1), (200, -1)):
            seq = [255] * length
            self.assertEqual(ask(add(seq, [1, 1, 1]), count()), [answered, max(answered, 0)])

    def test_every_byte(self):
        for start in range(0, 256, 32):
            calls = [add([b]) for b in range(start, start + 32)]
            self.assertEqual(ask(*calls), list(range(1, 33)))

    def test_a_sequence_that_is_there(self):
        self.assertEqual(ask(add(b"ab", [1, 2, 3]), add(b"ab", [1, 2, 3]), add(b"ab"), count()), [1, -3, -3, 1])

    def test_sequences_that_begin_alike_are_others(self):
        self.assertEqual(ask(add(b"a"), add(b"ab"), add(b"ba"), add(b"aa"), add(b"\0"), add(b"\0\0")), [1, 2, 3, 4, 5, 6])

    def test_unfit_comes_before_there_already(self):
        for w in UNFIT_WEIGHTS:
            self.assertEqual(ask(add(b"ab"), add(b"ab", w), count()), [1, -1, 1])

    def test_a_refused_add_changes_nothing(self):
        self.assertEqual(
            ask(add(b"a"), add(b"ab", [1]), add(b"abcdefghi"), add(b""), add(b"a", [2, 2, 2]), count(),
                cut(b"abcdefghi", 0), add(b"ab")),
            [1, -1, -1, -1, -3, 1, 1, 2])

    def test_after_begin_the_sequence_is_free(self):
        self.assertEqual(ask(add(b"a"), begin(1), add(b"a"), add(b"a")), [1, 0, 1, -3])


class AddToTableTest(unittest.TestCase):
    def test_the_weights_are_kept_three_by_three(self):
        table = Table()
        table.add([1], [])
        table.add([2, 3], [1, 2, 3])
        table.add([4], [1, 2, 3, 4, 5, 6, 7, 8, 9, 10, 11, 12])
        self.assertEqual(table.entries, {
            (1,): [],
            (2, 3): [(1, 2, 3)],
            (4,): [(1, 2, 3), (4, 5, 6), (7, 8, 9), (10, 11, 12)],
        })

    def test_what_was_handed_in_is_not_kept(self):
        table = Table()
        seq = [1, 2]
        w = [1, 2, 3]
        table.add(seq, w)
        self.assertEqual((seq, w), ([1, 2], [1, 2, 3]))
        seq.append(3)
        w[0] = 9
        self.assertEqual(table.entries, {(1, 2): [(1, 2, 3)]})

    def test_the_64th_is_taken_and_no_more(self):
        table = Table()
        self.assertEqual([table.add([k], []) for k in range(64)], list(range(1, 65)))
        self.assertEqual(table.add([64], []), -4)
        self.assertEqual(table.count(), 64)

    def test_there_already_comes_before_full(self):
        self.assertEqual(full_table().add([63], [1, 1, 1]), -3)

    def test_unfit_comes_before_full(self):
        table = full_table()
        self.assertEqual(table.add([], []), -1)
        self.assertEqual(table.add([1] * 9, []), -1)
        for w in UNFIT_WEIGHTS:
            self.assertEqual(table.add([64], w), -1)
            self.assertEqual(table.add([63], w), -1)

    def test_refusals_leave_a_full_table_as_it_is(self):
        table = full_table()
        table.options = 1
        for seq, w in (([64], []), ([63], [9, 9, 9]), ([], []), ([1] * 9, []), ([64], [65536, 0, 0])):
            self.assertLess(table.add(seq, w), 0)
            self.assertEqual(table.entries, full_table().entries)
            self.assertEqual(table.options, 1)

    def test_room_again_after_drop_and_after_begin(self):
        table = full_table()
        self.assertEqual(table.drop([5]), 1)
        self.assertEqual(table.add([64], []), 64)
        self.assertEqual(table.add([5], []), -4)
        self.assertEqual(table.begin(0), 0)
        self.assertEqual(table.add([5], []), 1)


if __name__ == "__main__":
    unittest.main()
