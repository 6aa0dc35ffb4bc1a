import unittest

from tests.helper import GREATEST, add, adds, ask, begin, compare, count, drop

STRENGTHS = (1, 2, 3)

# a stands before b; A is a but for the third weight, @ is a but for the second; ^ and ~ have only a second weight,
# - has only a third, . has no elements, * has one of no weights, & is a and b at once, # is ^ and - at once.
ENTRIES = {
    b"a": [10, 5, 5],
    b"A": [10, 5, 6],
    b"@": [10, 6, 5],
    b"b": [20, 5, 5],
    b"^": [0, 3, 0],
    b"~": [0, 9, 0],
    b"-": [0, 0, 4],
    b".": [],
    b"*": [0, 0, 0],
    b"&": [10, 5, 5, 20, 5, 5],
    b"#": [0, 3, 0, 0, 0, 4],
}

FRENCH = {
    b"c": [1, 1, 1], b"o": [2, 1, 1], b"t": [3, 1, 1], b"e": [4, 1, 1],
    b"\xf4": [2, 2, 1], b"\xe9": [4, 3, 1], b"T": [3, 1, 2], b"C": [1, 1, 2],
}


class CompareCase(unittest.TestCase):
    def check(self, a, b, wanted, entries=ENTRIES, options=0):
        """What is answered at the strengths 1, 2 and 3, and with the texts changed round."""
        calls = [compare(a, b, strength) for strength in STRENGTHS] + [compare(b, a, strength) for strength in STRENGTHS]
        turned = [{0: 0, 1: 2, 2: 1}[answered] for answered in wanted]
        written = ask(begin(options), *adds(entries), *calls)
        self.assertEqual(written[-6:], list(wanted) + turned, (a, b, options))


class CompareTest(CompareCase):
    def test_each_level_where_the_ones_before_it_are_the_same(self):
        self.check(b"a", b"a", (0, 0, 0))
        self.check(b"a", b"b", (1, 1, 1))
        self.check(b"a", b"@", (0, 1, 1))
        self.check(b"a", b"A", (0, 0, 1))

    def test_an_earlier_level_decides_against_the_later_ones(self):
        self.check(b"@", b"b", (1, 1, 1))
        self.check(b"@b", b"bA", (1, 1, 1))
        self.check(b"A", b"@", (0, 1, 1))
        self.check(b"Aa", b"a@", (0, 1, 1))
        self.check(b"~a", b"^b", (1, 1, 1))

    def test_the_first_difference_decides(self):
        self.check(b"abb", b"baa", (1, 1, 1))
        self.check(b"aab", b"aba", (1, 1, 1))
        self.check(b"aa@", b"a@a", (0, 1, 1))
        self.check(b"aaA", b"aAa", (0, 0, 1))

    def test_a_level_that_ends_is_before_one_that_goes_on(self):
        self.check(b"a", b"aa", (1, 1, 1))
        self.check(b"a", b"a^", (0, 1, 1))
        self.check(b"a", b"a-", (0, 0, 1))
        self.check(b"a^", b"a^^", (0, 1, 1))
        self.check(b"ab", b"b", (1, 1, 1))

    def test_zeros_are_left_out_of_every_level(self):
        self.check(b"-a", b"a", (0, 0, 1))
        self.check(b"^a", b"a", (0, 1, 1))
        self.check(b"^b", b"a", (2, 2, 2))
        self.check(b"-^b", b"a^-", (2, 2, 2))
        self.check(b"-@", b"a", (0, 2, 2))
        self.check(b"^A", b"^a", (0, 0, 2))
        self.check(b"*a*", b"a", (0, 0, 0))
        self.check(b"*b", b"a", (2, 2, 2))
        self.check(b"a*", b"a", (0, 0, 0))
        self.check(b"a^b", b"ab^", (0, 1, 1))
        self.check(b"a-", b"-a", (0, 0, 2))

    def test_zeros_of_two_levels_do_not_hide_the_third(self):
        entries = {b"x": [1, 0, 0], b"y": [0, 1, 0], b"z": [0, 0, 1], b"w": [1, 1, 1]}
        self.check(b"xyz", b"w", (0, 0, 0), entries)
        self.check(b"zyx", b"w", (0, 0, 0), entries)
        self.check(b"xy", b"w", (0, 0, 1), entries)
        self.check(b"xz", b"w", (0, 1, 1), entries)
        self.check(b"yz", b"w", (1, 1, 1), entries)

    def test_an_entry_of_no_elements_counts_for_nothing(self):
        self.check(b".a.", b"a", (0, 0, 0))
        self.check(b"...", b"", (0, 0, 0))
        self.check(b"a.b", b"&", (0, 0, 0))
        self.check(b".b", b"a", (2, 2, 2))

    def test_an_entry_of_several_elements(self):
        self.check(b"&", b"ab", (0, 0, 0))
        self.check(b"&", b"a", (2, 2, 2))
        self.check(b"&", b"ba", (1, 1, 1))
        self.check(b"&", b"Ab", (0, 0, 1))
        self.check(b"#", b"^-", (0, 0, 0))
        self.check(b"#", b"-^", (0, 0, 0))
        four = {b"m": [1, 2, 3, 4, 5, 6, 7, 8, 9, 10, 11, 12], b"n": [1, 2, 3], b"o": [4, 5, 6], b"p": [7, 8, 9],
                b"q": [10, 11, 12]}
        self.check(b"m", b"nopq", (0, 0, 0), four)
        self.check(b"m", b"nop", (2, 2, 2), four)
        self.check(b"m", b"npoq", (1, 1, 1), four)

    def test_a_longer_entry_is_taken_before_a_shorter_one(self):
        spanish = {b"c": [10, 1, 1], b"d": [20, 1, 1], b"h": [30, 1, 1], b"z": [40, 1, 1]}
        self.check(b"ch", b"cz", (1, 1, 1), spanish)
        for both in ({**spanish, b"ch": [15, 1, 1]}, {b"ch": [15, 1, 1], **spanish}):
            self.check(b"ch", b"cz", (2, 2, 2), both)
            self.check(b"ch", b"d", (1, 1, 1), both)
            self.check(b"cch", b"cd", (1, 1, 1), both)
            self.check(b"c", b"ch", (1, 1, 1), both)
        longest = {b"a": [9, 1, 1], b"aaaaaaaa": [1, 1, 1], b"aaaaaaa": [2, 1, 1]}
        self.check(b"a" * 8, b"a" * 7, (1, 1, 1), longest)
        self.check(b"a" * 7, b"a" * 6, (1, 1, 1), longest)
        self.check(b"a" * 16, b"a" * 15, (1, 1, 1), longest)

    def test_a_text_is_cut_from_its_beginning(self):
        entries = {b"ab": [1, 1, 1], b"bc": [2, 1, 1], b"a": [3, 1, 1], b"c": [4, 1, 1]}
        self.check(b"abc", b"abbc", (2, 2, 2), entries)
        self.check(b"aabc", b"abc", (2, 2, 2), entries)

    def test_unlisted_bytes_stand_behind_all_listed_ones(self):
        listed = {b"a": [65535, 65535, 65535], b"\xff": [1, 1, 1]}
        self.check(b"a", b"\0", (1, 1, 1), listed)
        self.check(b"\xff", b"\0", (1, 1, 1), listed)
        self.check(b"aaa", b"\0", (1, 1, 1), listed)

    def test_unlisted_bytes_stand_in_their_own_order(self):
        for b in range(255):
            self.assertEqual(ask(compare([b], [b + 1], 1), compare([b + 1], [b], 1), compare([b], [b], 3)), [1, 2, 0])
        self.check(b"xyz", b"xz", (1, 1, 1), {})
        self.check(b"xy", b"xyz", (1, 1, 1), {})

    def test_unlisted_bytes_have_1_as_the_other_weights(self):
        marks = {b"1": [0, 1, 0], b"2": [0, 2, 0], b"3": [0, 0, 1], b"4": [0, 0, 2]}
        self.check(b"z1", b"1z", (0, 0, 0), marks)
        self.check(b"z2", b"2z", (0, 1, 1), marks)
        self.check(b"z3", b"3z", (0, 0, 0), marks)
        self.check(b"z4", b"4z", (0, 0, 1), marks)

    def test_a_byte_within_a_longer_entry_alone_is_unlisted(self):
        self.check(b"c", b"ch", (2, 2, 2), {b"ch": [5, 1, 1]})
        self.check(b"c", b"h", (1, 1, 1), {b"ch": [5, 1, 1]})

    def test_empty_texts(self):
        self.check(b"", b"", (0, 0, 0))
        self.check(b"", b"a", (1, 1, 1))
        self.check(b"", b"z", (1, 1, 1))
        self.check(b"", b"^", (0, 1, 1))
        self.check(b"", b"-", (0, 0, 1))
        self.check(b"", b"*.*", (0, 0, 0))
        self.check(b"", b"", (0, 0, 0), {})

    def test_drop_and_add_between_two_compares(self):
        asked = compare(b"ch", b"cz", 3)
        self.assertEqual(
            ask(asked, add(b"ch", [5, 1, 1]), asked, add(b"c", [4, 1, 1]), asked, drop(b"ch"), asked,
                add(b"ch"), asked, drop(b"c"), drop(b"ch"), asked),
            [1, 1, 1, 2, 2, 1, 1, 2, 1, 1, 1, 1])

    def test_a_refused_add_changes_no_weights(self):
        asked = compare(b"a", b"b", 3)
        self.assertEqual(
            ask(add(b"a", [2, 1, 1]), add(b"b", [1, 1, 1]), asked, add(b"a", [1, 0, 0]), add(b"b", [3]), asked),
            [1, 2, 2, -3, -1, 2])

    def test_compare_changes_nothing(self):
        self.assertEqual(
            ask(add(b"a", [1, 1, 1]), compare(b"ab", b"b", 3), compare(b"a", b"b", 0), count(), compare(b"ab", b"b", 3)),
            [1, 1, -1, 1, 1])


class OptionsTest(CompareCase):
    def test_the_second_level_from_the_first_or_from_the_last(self):
        self.check(b"cot\xe9", b"c\xf4te", (0, 1, 1), FRENCH, 0)
        self.check(b"cot\xe9", b"c\xf4te", (0, 2, 2), FRENCH, 1)
        for options in (0, 1):
            for other in (b"cot\xe9", b"c\xf4te", b"c\xf4t\xe9"):
                self.check(b"cote", other, (0, 1, 1), FRENCH, options)
            self.check(b"cot\xe9", b"c\xf4t\xe9", (0, 1, 1), FRENCH, options)
            self.check(b"c\xf4te", b"c\xf4t\xe9", (0, 1, 1), FRENCH, options)

    def test_the_first_and_the_third_level_stay(self):
        for options in (0, 1):
            self.check(b"cto", b"toc", (1, 1, 1), FRENCH, options)
            self.check(b"coT", b"Cot", (0, 0, 1), FRENCH, options)
            self.check(b"\0\1", b"\1\0", (1, 1, 1), {}, options)

    def test_zeros_are_left_out_of_the_turned_level(self):
        self.check(b"a@^", b"@a^", (0, 2, 2), options=1)
        self.check(b"@a-", b"a@", (0, 1, 1), options=1)
        self.check(b"@a*", b"@a", (0, 0, 0), options=1)

    def test_the_elements_of_one_entry_are_turned_too(self):
        entries = {b"x": [1, 2, 1, 1, 3, 1], b"y": [1, 3, 1, 1, 2, 1]}
        self.check(b"x", b"y", (0, 1, 1), entries, 0)
        self.check(b"x", b"y", (0, 2, 2), entries, 1)

    def test_a_turned_level_that_ends_is_before_one_that_goes_on(self):
        self.check(b"a", b"^a", (0, 2, 2), options=0)
        self.check(b"a", b"^a", (0, 1, 1), options=1)
        self.check(b"a", b"a^", (0, 1, 1), options=0)
        self.check(b"a", b"a^", (0, 2, 2), options=1)

    def test_options_are_0_at_the_beginning(self):
        self.assertEqual(ask(*adds(FRENCH), compare(b"cot\xe9", b"c\xf4te", 2))[-1], 1)

    def test_a_later_begin_sets_options_anew(self):
        again = adds(FRENCH) + [compare(b"cot\xe9", b"c\xf4te", 2)]
        written = ask(*again, begin(1), *again, begin(0), *again, begin(1), begin(1), *again)
        self.assertEqual(written[8::10][:3], [1, 2, 1])
        self.assertEqual(written[-1], 2)

    def test_a_refused_begin_changes_nothing(self):
        asked = compare(b"cot\xe9", b"c\xf4te", 2)
        for options, answered in ((0, 1), (1, 2)):
            for above in (2, 3, GREATEST):
                written = ask(begin(options), *adds(FRENCH), asked, begin(above), asked, begin(above), asked, count())
                self.assertEqual(written[-6:], [answered, -1, answered, -1, answered, 8])


class RefusedCompareTest(unittest.TestCase):
    def test_strengths(self):
        for strength in (0, 4, 5, 255, 2 ** 32 + 1, 2 ** 64 + 1, GREATEST):
            self.assertEqual(ask(compare(b"a", b"b", strength), compare(b"", b"", strength)), [-1, -1])

    def test_more_than_64_bytes(self):
        for strength in STRENGTHS:
            for length in (65, 66, 200):
                long = b"a" * length
                self.assertEqual(
                    ask(compare(long, b"a", strength), compare(b"a", long, strength), compare(long, long, strength),
                        compare(b"", long, strength)),
                    [-2] * 4)

    def test_the_strength_comes_before_the_length(self):
        for strength in (0, 4, GREATEST):
            self.assertEqual(
                ask(compare(b"a" * 65, b"a", strength), compare(b"a", b"a" * 200, strength),
                    compare(b"a" * 65, b"a" * 65, strength)),
                [-1] * 3)

    def test_64_bytes_are_not_refused(self):
        for strength in STRENGTHS:
            self.assertEqual(
                ask(compare(b"a" * 64, b"a" * 64, strength), compare(b"a" * 63, b"a" * 64, strength),
                    compare(b"a" * 63 + b"b", b"a" * 64, strength), compare(b"b", b"a" * 64, strength)),
                [0, 1, 2, 2])

    def test_bytes_that_count_for_nothing_are_counted(self):
        self.assertEqual(ask(add(b"."), compare(b"." * 65, b"", 1), compare(b"." * 64, b"", 3)), [1, -2, 0])


if __name__ == "__main__":
    unittest.main()
