"""What the document promises over the whole program, looked at over many tables and texts."""

import itertools
import random
import unittest

from tests.helper import Model, adds, ask_rows, begin, compare, cut, high, key, low, table_of

STRENGTHS = (1, 2, 3)

WEIGHTS = (0, 0, 0, 1, 1, 2, 3, 255, 256, 257, 65535)


def texts_to(longest, letters):
    return [list(text) for length in range(longest + 1) for text in itertools.product(letters, repeat=length)]


def some_text(source, letters, longest):
    return bytes(source.choice(letters) for k in range(source.randint(0, longest)))


def some_entries(source, letters, most):
    entries = {}
    for k in range(source.randint(0, most)):
        seq = some_text(source, letters, source.choice([1, 1, 2, 3, 8]))
        if seq:
            entries[seq] = [source.choice(WEIGHTS) for j in range(3 * source.choice([0, 1, 1, 1, 2, 4]))]
    return entries


def some_texts(source, letters, how_many):
    return [some_text(source, letters, source.choice([2, 4, 8])) for k in range(how_many)]


def as_model(entries, options):
    model = Model()
    model.begin(options)
    for seq, w in entries.items():
        model.add(seq, w)
    return model


def order_of_bytes(one, other):
    if one == other:
        return 0
    return 1 if bytes(one) < bytes(other) else 2


# Tables of a few letters, in which many texts are the same on one level and differ on another.
SMALL_TABLES = (
    {},
    {b"\1": []},
    {b"\1": [1, 1, 1], b"\2": [1, 2, 1], b"\3": [1, 1, 2]},
    {b"\1": [1, 1, 1], b"\2": [0, 1, 0], b"\3": [0, 0, 1]},
    {b"\1": [0, 2, 1], b"\2": [0, 1, 2], b"\3": [0, 0, 0]},
    {b"\1": [256, 1, 1], b"\2": [255, 1, 1], b"\1\2": [1, 256, 256], b"\3": [1, 255, 256]},
    {b"\1\2": [1, 2, 0, 0, 1, 3], b"\2": [1, 2, 0], b"\3": [0, 1, 3], b"\2\1": []},
    {b"\1\1": [65535, 65535, 65535], b"\1": [65535, 1, 1], b"\1\2\3": [65535, 65535, 1], b"\2": [0, 1, 65535]},
)


class PromisesTest(unittest.TestCase):
    def small_tables(self):
        return [table_of(entries, options) for entries in SMALL_TABLES for options in (0, 1)]

    def test_keys_stand_in_the_order_of_their_texts(self):
        texts = texts_to(3, (1, 2, 3))
        for table in self.small_tables():
            keys = [table.key(s)[1:] for s in texts]
            for (a, a_key), (b, b_key) in itertools.product(zip(texts, keys), repeat=2):
                self.assertEqual(table.compare(a, b, 3), order_of_bytes(a_key, b_key), (table.entries, a, b))

    def test_a_key_lies_between_the_bounds_just_if_its_first_level_begins_so(self):
        texts = texts_to(3, (1, 2, 3))
        for entries, options in itertools.product(SMALL_TABLES, (0, 1)):
            table = table_of(entries, options)
            model = as_model(entries, options)
            firsts = [model.levels(bytes(s))[0] for s in texts]
            keys = [bytes(table.key(s)[1:]) for s in texts]
            for s, s_first in zip(texts, firsts):
                s_low = bytes(table.low(s)[1:])
                s_high = bytes(table.high(s)[1:])
                for first, text_key in zip(firsts, keys):
                    begins = first[:len(s_first)] == s_first
                    self.assertEqual(s_low <= text_key < s_high, begins, (entries, s, first))

    def test_what_is_before_at_a_strength_is_before_at_all_greater_ones(self):
        texts = texts_to(3, (1, 2, 3))
        for table in self.small_tables():
            for a, b in itertools.product(texts, repeat=2):
                answered = [table.compare(a, b, strength) for strength in STRENGTHS]
                differing = [number for number in answered if number != 0]
                self.assertEqual(answered, [0] * (3 - len(differing)) + differing[:1] * len(differing), (a, b))

    def test_compare_is_a_total_order_with_ties(self):
        texts = texts_to(2, (1, 2, 3)) + [[1, 2, 3], [3, 2, 1], [2, 1, 2], [1, 1, 1]]
        for table in self.small_tables():
            for strength in STRENGTHS:
                at_most = [[table.compare(a, b, strength) in (0, 1) for b in texts] for a in texts]
                self.check_total_order(table, texts, strength, at_most)

    def check_total_order(self, table, texts, strength, at_most):
        places = range(len(texts))
        for i in places:
            self.assertEqual(table.compare(texts[i], texts[i], strength), 0)
            for j in places:
                turned = {0: 0, 1: 2, 2: 1}[table.compare(texts[j], texts[i], strength)]
                self.assertEqual(table.compare(texts[i], texts[j], strength), turned)
                for k in places:
                    self.assertTrue(at_most[i][k] or not (at_most[i][j] and at_most[j][k]))

    def test_find_finds_a_match_if_there_is_one(self):
        texts = texts_to(4, (1, 2, 3))
        patterns = texts_to(2, (1, 2, 3))
        for entries, options in itertools.product(SMALL_TABLES[1:], (0, 1)):
            table = table_of(entries, options)
            model = as_model(entries, options)
            for s, p in itertools.product(texts[::5], patterns):
                for strength, start in itertools.product(STRENGTHS, (0, 1, len(s))):
                    wanted = model.find(bytes(s), bytes(p), strength, start)
                    self.assertEqual(table.find(s, p, strength, start), wanted, (entries, s, p, strength, start))


class HistoriesOfOneTableTest(unittest.TestCase):
    """The promises once more by way of the list of calls, over tables and texts of any form."""

    def some_tables(self, seed, how_many):
        source = random.Random(seed)
        for k in range(how_many):
            letters = source.choice([b"ab", b"abc", b"a\0\xff"])
            options = source.choice([0, 1])
            entries = some_entries(source, letters, 8)
            yield source, letters, [begin(options)] + adds(entries), as_model(entries, options)

    def test_keys_and_compare(self):
        for source, letters, made, model in self.some_tables(5, 400):
            texts = some_texts(source, letters, 5)
            pairs = list(itertools.product(texts, repeat=2))
            keys = dict(zip(texts, ask_rows(*made, *[key(s) for s in texts])[len(made):]))
            compared = ask_rows(*made, *[compare(a, b, 3) for a, b in pairs])[len(made):]
            for (a, b), answered in zip(pairs, compared):
                self.assertEqual(answered, [order_of_bytes(keys[a][1:], keys[b][1:])], (made, a, b))

    def test_bounds(self):
        for source, letters, made, model in self.some_tables(6, 400):
            texts = some_texts(source, letters, 12)
            s = texts[0][:2]
            bounds = ask_rows(*made, low(s), high(s), *[key(text) for text in texts])[len(made):]
            s_low, s_high = [bytes(part[1:]) for part in bounds[:2]]
            s_first = model.levels(s)[0]
            for text, part in zip(texts, bounds[2:]):
                begins = model.levels(text)[0][:len(s_first)] == s_first
                self.assertEqual(s_low <= bytes(part[1:]) < s_high, begins, (made, s, text))

    def test_strengths(self):
        for source, letters, made, model in self.some_tables(7, 300):
            texts = some_texts(source, letters, 12)
            for a, b in zip(texts[0::2], texts[1::2]):
                written = ask_rows(*made, *[compare(a, b, strength) for strength in STRENGTHS])[len(made):]
                answered = [part[0] for part in written]
                for k in (0, 1):
                    self.assertIn(answered[k], (0, answered[k + 1]), (made, a, b))

    def test_cuts_make_up_the_text(self):
        for source, letters, made, model in self.some_tables(8, 300):
            s = some_text(source, letters, 30) + b"a"
            behind = [part[0] for part in ask_rows(*made, *[cut(s, at) for at in range(len(s))])[len(made):]]
            cuts = []
            at = 0
            while at < len(s):
                cuts.append(s[at:behind[at]])
                at = behind[at]
            self.assertEqual(b"".join(cuts), s)
            self.assertEqual(cuts, [s[first:last] for first, last, w in model.cuts(s)])


if __name__ == "__main__":
    unittest.main()
