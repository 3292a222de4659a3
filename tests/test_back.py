"""Points 0.2 d and 6.1: the rows that have a code."""

import random
import unittest
from math import comb

from rowcoders.back import count_rows, first_row
from rowcoders.coders import code_of, family
from rowcoders.errors import InvalidChain, InvalidCode, InvalidCount, InvalidSize
from rowcoders.lengths import count_lengths
from rowcoders.twins import twins
from tests.plain import ALL_CHAINS, LISTED, SIZES, listed_codes, listed_rows, plain_code, random_row
from tests.unread import READABLE, plain_count, plain_first_row
from tests.wrong import WRONG_SIZES, assert_first_error, wrong_chains, wrong_codes, wrong_counts


def rows_by_code(k, chain):
    """The listed rows, in their order, by their codes."""
    rows = {}
    for row, code in zip(listed_rows(k), listed_codes(k, chain)):
        rows.setdefault(code, []).append(row)
    return rows


def spoilt_codes(chance, k, code):
    """The code with a sign changed, with one dropped and with one added."""
    at = chance.randrange(len(code))
    changed = (code[at] + chance.randrange(1, k)) % k
    added = chance.randrange(k)
    return [code[:at] + [changed] + code[at + 1:], code[:at] + code[at + 1:], code[:at] + [added] + code[at:]]


def row_of_long_code(chance, k, chain):
    """A row and its code of 200 signs, or of some fewer where it leaps over 200."""
    row = random_row(chance, k, 800)
    if "drops" in chain:
        row = [chance.randrange(k) for _ in range(1200)]
    low, high = 0, len(row)
    while high - low > 1:
        middle = (low + high) // 2
        if len(plain_code(k, chain, row[:middle])) <= 200:
            low = middle
        else:
            high = middle
    return row[:low], plain_code(k, chain, row[:low])


def codes_of_all_kinds(chance, k, chain):
    """Codes of random rows of up to 40 signs, spoilt ones, and some of 200 signs."""
    codes = [[], [0] * 200, [k - 1] * 200, [0, 1] * 100, random_row(chance, k, 200), random_row(chance, k, 199)]
    for length in (2, 17, 40):
        code = plain_code(k, chain, random_row(chance, k, length))
        codes += [code, *spoilt_codes(chance, k, code)]
    _, long_code = row_of_long_code(chance, k, chain)
    return codes + [long_code] + [code for code in spoilt_codes(chance, k, long_code) if len(code) <= 200]


class Examples(unittest.TestCase):
    def test_the_examples_of_6_1(self):
        self.assertEqual(first_row(2, ("drops",), [0, 1]), [0, 1])
        self.assertEqual(count_rows(2, ("drops",), [0, 1], 4), 3)

    def test_first_rows_by_hand(self):
        for k in SIZES:
            self.assertEqual(first_row(k, ("double",), [0, 0, 1, 1]), [0, 1])
            self.assertIsNone(first_row(k, ("double",), [0, 0, 1]))
            self.assertIsNone(first_row(k, ("double",), [0, 1]))
            self.assertEqual(first_row(k, ("halves",), [1, 1, 0]), [1, 0, 1, 0, 0])
            self.assertIsNone(first_row(k, ("drops",), [0, 1, 1, 0]))
            self.assertIsNone(first_row(k, ("same", "drops"), [1] * 200))
            self.assertEqual(first_row(k, ("halves", "halves"), [1] * 200), ([1, 0, 0, 0] * 200)[:797])
            self.assertIsNone(first_row(k, ("twos",), [1, 1]))
            self.assertIsNone(first_row(k, ("twos",), [0, 0, 0, 0]))
            self.assertEqual(first_row(k, ("twos",), [1, 1, 0]), [1, 1])
            self.assertEqual(first_row(k, ("twos",), [0, 0, k - 1, 0]), [0, 0] + [0] * (k - 1) + [0])
            self.assertIsNone(first_row(k, ("flags0",), [0]))
            self.assertEqual(first_row(k, ("flags1",), [0, 1, 0, 0]), [0, 1, 0])
            self.assertIsNone(first_row(k, ("flags1",), [0, 1, 0, 1]))

    def test_counts_by_hand(self):
        for k in SIZES:
            for many in range(41):
                self.assertEqual(count_rows(k, ("same",), [1] * many, many), 1)
                self.assertEqual(count_rows(k, ("double", "double"), [1] * 160, many), int(many == 40))
                self.assertEqual(count_rows(k, ("halves",), [1] * 20, many), {39: k ** 19, 40: k ** 20}.get(many, 0))
                for length in range(1, 41):
                    code = ([0, 1] * 20)[:length]
                    self.assertEqual(count_rows(k, ("drops",), code, many), comb(many - 1, length - 1) if many else 0)
            for length in range(1, 21):
                code = ([1, 0] * 20)[:length]
                self.assertEqual(count_rows(k, ("halves", "drops"), code, 40), comb(19, length - 1) * k ** 20)
        # What "drops" writes alternates, for two signs, so that "halves" writes one sign alone.
        for length in range(1, 21):
            count = comb(39, 2 * length - 2) + comb(39, 2 * length - 1)
            self.assertEqual(count_rows(2, ("drops", "halves"), [1] * length, 40), count)
            self.assertIsNone(first_row(2, ("drops", "halves"), [1] * length + [0]))

    def test_the_empty_code(self):
        for k, chain in ALL_CHAINS:
            self.assertEqual(first_row(k, chain, []), [])
            for many in (0, 1, 2, 39, 40):
                self.assertEqual(count_rows(k, chain, [], many), int(many == 0))


class ByListing(unittest.TestCase):
    def test_all_codes_of_short_rows(self):
        for k, chain in ALL_CHAINS:
            for code, rows in rows_by_code(k, chain).items():
                self.assertEqual(first_row(k, chain, list(code)), list(rows[0]), (k, chain, code))

    def test_counts_of_short_rows(self):
        for k, greatest in ((2, 4), (3, 3)):
            for chain in family(k):
                totals = [0] * (greatest + 1)
                for code, rows in rows_by_code(k, chain).items():
                    if len(rows[0]) <= greatest:
                        for many in range(greatest + 1):
                            listed = sum(len(row) == many for row in rows)
                            count = count_rows(k, chain, list(code), many)
                            self.assertEqual(count, listed, (k, chain, code, many))
                            totals[many] += count
                self.assertEqual(totals, [k ** many for many in range(greatest + 1)], (k, chain))

    def test_codes_that_may_be_of_no_row(self):
        for k, chain in ALL_CHAINS:
            chance = random.Random(repr((k, chain)))
            rows = rows_by_code(k, chain)
            for row in chance.sample(listed_rows(k)[1:], 12):
                for code in spoilt_codes(chance, k, plain_code(k, chain, list(row))):
                    found = first_row(k, chain, code)
                    if tuple(code) in rows:
                        self.assertEqual(found, list(rows[tuple(code)][0]), (k, chain, code))
                    elif found is not None:
                        self.assertGreater(len(found), LISTED[k], (k, chain, code))
                        self.assertEqual(plain_code(k, chain, found), code, (k, chain, code))

    def test_all_short_codes(self):
        for k, chain in ALL_CHAINS:
            rows = rows_by_code(k, chain)
            for code in listed_rows(k)[:40]:
                found = first_row(k, chain, list(code))
                if found is None or len(found) <= LISTED[k]:
                    self.assertEqual(found, list(rows[code][0]) if code in rows else None, (k, chain, code))
                else:
                    self.assertNotIn(code, rows, (k, chain))
                    self.assertEqual(tuple(plain_code(k, chain, found)), code, (k, chain))


class OfAnyLength(unittest.TestCase):
    def test_against_the_plain_way_back(self):
        for k, chain in READABLE:
            chance = random.Random(repr((k, chain)))
            for code in codes_of_all_kinds(chance, k, chain):
                row = plain_first_row(k, chain, code)
                self.assertEqual(first_row(k, chain, code), row, (k, chain, code))
                length = len(row or [])
                for many in sorted({0, 1, max(0, min(length, 40) - 1), min(length, 40), min(length + 1, 40), 40}):
                    count = plain_count(k, chain, code, many)
                    self.assertEqual(count_rows(k, chain, code, many), count, (k, chain, code, many))

    def test_counts_of_0_to_40_signs_against_the_plain_way_back(self):
        for k, chain in READABLE[::7]:
            chance = random.Random(repr((k, chain)))
            for length in (7, 20, 40):
                code = plain_code(k, chain, random_row(chance, k, length))
                for many in range(41):
                    count = plain_count(k, chain, code, many)
                    self.assertEqual(count_rows(k, chain, code, many), count, (k, chain, code, many))

    def test_rows_of_codes_of_200_signs(self):
        for k, chain in ALL_CHAINS:
            chance = random.Random(repr((k, chain)))
            row, code = row_of_long_code(chance, k, chain)
            self.assertGreaterEqual(len(code), 197)
            found = first_row(k, chain, code)
            self.assertEqual(plain_code(k, chain, found), code, (k, chain))
            self.assertLessEqual((len(found), found), (len(row), row), (k, chain))
            if twins(k, chain) is None:
                self.assertEqual(found, row, (k, chain))

    def test_rows_of_codes_of_forty_signs(self):
        for k, chain in ALL_CHAINS:
            chance = random.Random(repr((k, chain)))
            for length in (11, 40):
                row = random_row(chance, k, length)
                code = code_of(k, chain, row)
                found = first_row(k, chain, code)
                self.assertEqual(plain_code(k, chain, found), code)
                self.assertLessEqual((len(found), found), (length, row))
                self.assertGreaterEqual(count_rows(k, chain, code, length), 1)
                self.assertGreaterEqual(count_rows(k, chain, code, len(found)), 1)
                for shorter in range(max(0, len(found) - 3), len(found)):
                    self.assertEqual(count_rows(k, chain, code, shorter), 0)

    def test_codes_of_no_row_are_counted_0_times(self):
        for k, chain in ALL_CHAINS:
            chance = random.Random(repr((k, chain)))
            code = plain_code(k, chain, random_row(chance, k, 20))
            for spoilt in spoilt_codes(chance, k, code):
                row = first_row(k, chain, spoilt)
                counts = [count_rows(k, chain, spoilt, many) for many in (10, 19, 20, 21, 39, 40)]
                if row is None:
                    self.assertEqual(counts, [0] * 6, (k, chain, spoilt))
                else:
                    self.assertEqual(plain_code(k, chain, row), spoilt, (k, chain))

    def test_counts_keep_below_those_of_the_lengths(self):
        for k, chain in ALL_CHAINS:
            chance = random.Random(repr((k, chain)))
            code = code_of(k, chain, random_row(chance, k, 40))
            count = count_rows(k, chain, code, 40)
            self.assertLessEqual(count, dict(count_lengths(k, chain, 40))[len(code)], (k, chain))
            if twins(k, chain) is None:
                self.assertEqual(count, 1, (k, chain))


class Calls(unittest.TestCase):
    def test_wrong_arguments(self):
        for k in SIZES:
            wrong = [
                (0, InvalidSize, WRONG_SIZES),
                (1, InvalidChain, wrong_chains(k)),
                (2, InvalidCode, wrong_codes(k)),
            ]
            assert_first_error(self, first_row, [k, ("drops",), [0, 1]], wrong)
            wrong.append((3, InvalidCount, wrong_counts(40)))
            assert_first_error(self, count_rows, [k, ("drops",), [0, 1], 4], wrong)

    def test_200_signs_but_no_more(self):
        for k in SIZES:
            self.assertEqual(first_row(k, ("same",), [1] * 200), [1] * 200)
            self.assertEqual(count_rows(k, ("same",), [1] * 200, 40), 0)
            with self.assertRaises(InvalidCode):
                first_row(k, ("same",), [1] * 201)
            with self.assertRaises(InvalidCode):
                count_rows(k, ("same",), [1] * 201, 41)

    def test_the_code_is_not_changed_and_the_row_is_new(self):
        for k, chain in ALL_CHAINS:
            code = code_of(k, chain, [0, 1, k - 1, 0, 0, 0, 0, 1])
            kept_code = list(code)
            row = first_row(k, chain, code)
            kept_row = list(row)
            count = count_rows(k, chain, code, 8)
            self.assertEqual(code, kept_code)
            self.assertIsNot(row, code)
            row.append(9)
            self.assertEqual(code, kept_code)
            self.assertEqual(first_row(k, chain, code), kept_row)
            self.assertEqual(count_rows(k, chain, code, 8), count)


if __name__ == "__main__":
    unittest.main()
