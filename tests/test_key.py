import unittest

from tests.helper import GREATEST, add, adds, ask_rows, begin, count, cut, drop, high, key, low, row

BETWEEN = [0, 0, 0]

ENTRIES = {
    b"a": [1, 2, 3],
    b"b": [4, 5, 6],
    b"w": [65535, 256, 255],
    b"1": [7, 0, 0],
    b"2": [0, 8, 0],
    b"3": [0, 0, 9],
    b".": [],
    b"*": [0, 0, 0],
    b"&": [1, 2, 3, 0, 5, 6, 7, 0, 9, 10, 11, 0],
    b"ab": [258, 1, 1],
}


def key_bytes(first, second, third):
    weights = list(first) + [0] + list(second) + [0] + list(third)
    return [byte for weight in weights for byte in weight.to_bytes(3, "big")]


class KeyCase(unittest.TestCase):
    def check(self, s, first, second, third, entries=ENTRIES, options=0):
        """The key and both bounds of a text with these levels."""
        written = ask_rows(begin(options), *adds(entries), key(s), low(s), high(s))
        first_bytes = key_bytes(first, [], [])[:-6]
        self.assertEqual(
            written[-3:],
            [row(key_bytes(first, second, third)), row(first_bytes), row(first_bytes + [255, 255, 255])],
            (s, options))


class KeyTest(KeyCase):
    def test_written_out(self):
        self.assertEqual(
            ask_rows(add(b"a", [1, 2, 3]), key(b"a"), low(b"a"), high(b"a")),
            [[1], [15, 0, 0, 1, 0, 0, 0, 0, 0, 2, 0, 0, 0, 0, 0, 3], [3, 0, 0, 1], [6, 0, 0, 1, 255, 255, 255]])

    def test_three_bytes_the_highest_first(self):
        for weight, three in ((1, [0, 0, 1]), (255, [0, 0, 255]), (256, [0, 1, 0]), (258, [0, 1, 2]),
                              (65280, [0, 255, 0]), (65535, [0, 255, 255])):
            self.assertEqual(
                ask_rows(add(b"a", [weight] * 3), key(b"a"), low(b"a"), high(b"a")),
                [[1], [15] + three + BETWEEN + three + BETWEEN + three, [3] + three, [6] + three + [255] * 3])

    def test_unlisted_bytes(self):
        for b in range(256):
            self.assertEqual(
                ask_rows(key([b]), low([b]), high([b])),
                [[15, 1, 0, b, 0, 0, 0, 0, 0, 1, 0, 0, 0, 0, 0, 1], [3, 1, 0, b], [6, 1, 0, b, 255, 255, 255]])
        self.check(b"zax", [65536 + 122, 1, 65536 + 120], [1, 2, 1], [1, 3, 1])

    def test_the_levels_one_behind_another(self):
        self.check(b"ba", [4, 1], [5, 2], [6, 3])
        self.check(b"aw", [1, 65535], [2, 256], [3, 255])
        self.check(b"bab", [4, 258], [5, 1], [6, 1])

    def test_an_entry_of_several_elements(self):
        self.check(b"&", [1, 7, 10], [2, 5, 11], [3, 6, 9])
        self.check(b"b&a", [4, 1, 7, 10, 1], [5, 2, 5, 11, 2], [6, 3, 6, 9, 3])

    def test_the_bytes_between_stand_also_where_a_level_is_empty(self):
        self.assertEqual(ask_rows(key(b"")), [[6, 0, 0, 0, 0, 0, 0]])
        self.check(b"", [], [], [])
        self.check(b".*", [], [], [])
        self.check(b"1", [7], [], [])
        self.check(b"2", [], [8], [])
        self.check(b"3", [], [], [9])
        self.check(b"12", [7], [8], [])
        self.check(b"13", [7], [], [9])
        self.check(b"23", [], [8], [9])
        self.check(b"321", [7], [8], [9])

    def test_zeros_are_left_out(self):
        self.check(b"2a3b1", [1, 4, 7], [8, 2, 5], [3, 9, 6])
        self.check(b".a*b.", [1, 4], [2, 5], [3, 6])

    def test_the_second_level_from_the_last_to_the_first(self):
        self.check(b"ba", [4, 1], [2, 5], [6, 3], options=1)
        self.check(b"2a3b1", [1, 4, 7], [5, 2, 8], [3, 9, 6], options=1)
        self.check(b"&b", [1, 7, 10, 4], [5, 11, 5, 2], [3, 6, 9, 6], options=1)
        self.check(b"wz", [65535, 65536 + 122], [1, 256], [255, 1], options=1)
        self.check(b"", [], [], [], options=1)

    def test_options_anew_and_a_refused_begin(self):
        asked = adds({b"a": [1, 2, 3], b"b": [4, 5, 6]}) + [key(b"ba")]
        forward = row(key_bytes([4, 1], [5, 2], [6, 3]))
        turned = row(key_bytes([4, 1], [2, 5], [6, 3]))
        self.assertEqual(
            ask_rows(*asked, begin(1), *asked, begin(2), key(b"ba"), begin(0), *asked, begin(GREATEST), key(b"ba")),
            [[1], [2], forward, [0], [1], [2], turned, [-1], turned, [0], [1], [2], forward, [-1], forward])

    def test_low_and_high_of_a_text_without_first_weights(self):
        for s in (b"", b".", b"*", b"2", b"3", b".*23"):
            written = ask_rows(*adds(ENTRIES), low(s), high(s))
            self.assertEqual(written[-2:], [[0], [3, 255, 255, 255]])

    def test_bounds_are_the_same_with_either_options(self):
        for options in (0, 1):
            written = ask_rows(begin(options), *adds(ENTRIES), low(b"ba"), high(b"ba"))
            self.assertEqual(written[-2:], [[6, 0, 0, 4, 0, 0, 1], [9, 0, 0, 4, 0, 0, 1, 255, 255, 255]])

    def test_add_and_drop_between(self):
        self.assertEqual(
            ask_rows(low(b"ab"), add(b"ab", [9, 9, 9]), low(b"ab"), add(b"a"), low(b"ab"), drop(b"ab"), low(b"ab"),
                     add(b"b", [0, 1, 1]), low(b"ab")),
            [[6, 1, 0, 97, 1, 0, 98], [1], [3, 0, 0, 9], [2], [3, 0, 0, 9], [1], [3, 1, 0, 98], [2], [0]])

    def test_the_longest_key(self):
        w = list(range(1, 13))
        written = ask_rows(add(b"a", w), key(b"a" * 64), low(b"a" * 64), high(b"a" * 64))
        self.assertEqual(written[1], row(key_bytes(w[0::3] * 64, w[1::3] * 64, w[2::3] * 64)))
        self.assertEqual([len(part) for part in written], [1, 1 + 3 * 770, 1 + 3 * 256, 1 + 3 * 257])

    def test_nothing_is_changed(self):
        self.assertEqual(
            ask_rows(add(b"ab", [1, 1, 1]), key(b"ab"), low(b"ab"), high(b"ab"), key(b"a" * 65), count(), cut(b"ab", 0),
                     low(b"ab"))[-4:],
            [[-2], [1], [2], [3, 0, 0, 1]])


class RefusedKeyTest(unittest.TestCase):
    def test_more_than_64_bytes(self):
        for length in (65, 66, 200):
            long = b"a" * length
            self.assertEqual(ask_rows(key(long), low(long), high(long)), [[-2]] * 3)
            self.assertEqual(ask_rows(add(b"a"), key(long), low(long), high(long)), [[1]] + [[-2]] * 3)

    def test_64_bytes_are_not_refused(self):
        written = ask_rows(key(b"a" * 64), low(b"a" * 64), high(b"a" * 64))
        self.assertEqual([part[0] for part in written], [3 * 194, 3 * 64, 3 * 65])
        self.assertEqual([len(part) for part in written], [3 * 194 + 1, 3 * 64 + 1, 3 * 65 + 1])


if __name__ == "__main__":
    unittest.main()
