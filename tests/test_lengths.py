"""Points 0.2 d, 3.1 and 3.2: the lengths of the codes of all rows of so many signs."""

import unittest
from itertools import product
from math import comb

from rowcoders.coders import code_of, family
from rowcoders.errors import InvalidChain, InvalidCount, InvalidSize
from rowcoders.lengths import count_lengths, length_range, row_of_length
from rowcoders.rates import greatest_rate, least_rate
from tests.plain import ALL_CHAINS, SIZES, all_rows, plain_code
from tests.wrong import WRONG_SIZES, assert_first_error, wrong_chains, wrong_counts


def lengths_by_listing(k, chain, many):
    """The rows of so many signs, in their order, by the lengths of their codes."""
    rows = {}
    for row in all_rows(k, many):
        rows.setdefault(len(plain_code(k, chain, row)), []).append(row)
    return rows


class ByListing(unittest.TestCase):
    def assert_as_listed(self, k, chain, many):
        rows = lengths_by_listing(k, chain, many)
        counts = sorted((length, len(found)) for length, found in rows.items())
        self.assertEqual(count_lengths(k, chain, many), counts, (k, chain, many))
        self.assertEqual(length_range(k, chain, many), (min(rows), max(rows)), (k, chain, many))
        for length in range(max(rows) + 3):
            first = rows[length][0] if length in rows else None
            self.assertEqual(row_of_length(k, chain, many, length), first, (k, chain, many, length))

    def test_all_chains(self):
        for k, greatest in ((2, 6), (3, 4)):
            for chain in family(k):
                for many in range(greatest + 1):
                    self.assert_as_listed(k, chain, many)

    def test_longer_rows(self):
        chains = [
            ("drops",), ("twos",), ("flags0",), ("twos", "twos"),
            ("drops", "flags1"), ("front", "twos"), ("unfront", "drops"),
        ]
        for k, many in ((2, 11), (3, 7)):
            for chain in chains:
                self.assert_as_listed(k, chain, many)


class Examples(unittest.TestCase):
    def test_the_example_of_3_1(self):
        self.assertEqual(count_lengths(2, ("drops",), 3), [(1, 2), (2, 4), (3, 2)])

    def test_the_example_of_3_2(self):
        self.assertEqual(row_of_length(2, ("drops",), 3, 2), [0, 0, 1])

    def test_no_signs(self):
        for k, chain in ALL_CHAINS:
            self.assertEqual(length_range(k, chain, 0), (0, 0))
            self.assertEqual(count_lengths(k, chain, 0), [(0, 1)])
            self.assertEqual(row_of_length(k, chain, 0, 0), [])
            self.assertIsNone(row_of_length(k, chain, 0, 1))
            self.assertIsNone(row_of_length(k, chain, 0, 200))


class FortySigns(unittest.TestCase):
    def test_the_numbers_add_up(self):
        for k, chain in ALL_CHAINS:
            for many in (1, 2, 7, 20, 39, 40):
                counts = count_lengths(k, chain, many)
                self.assertEqual(counts, sorted(counts))
                self.assertEqual(len({length for length, _ in counts}), len(counts))
                self.assertTrue(all(number > 0 for _, number in counts))
                self.assertEqual(sum(number for _, number in counts), k ** many)
                self.assertEqual(length_range(k, chain, many), (counts[0][0], counts[-1][0]))

    def test_kinds_of_the_answers(self):
        for k, chain in ALL_CHAINS:
            span = length_range(k, chain, 40)
            self.assertEqual((span.__class__, len(span)), (tuple, 2))
            counts = count_lengths(k, chain, 40)
            self.assertIsInstance(counts, list)
            self.assertTrue(all(isinstance(item, tuple) and len(item) == 2 for item in counts))

    def test_counts_by_hand(self):
        for k in SIZES:
            runs = [(length, k * (k - 1) ** (length - 1) * comb(39, length - 1)) for length in range(1, 41)]
            self.assertEqual(count_lengths(k, ("drops",), 40), runs)
            self.assertEqual(count_lengths(k, ("double", "double"), 40), [(160, k ** 40)])
            self.assertEqual(count_lengths(k, ("halves", "halves"), 39), [(10, k ** 39)])
            self.assertEqual(count_lengths(k, ("delta", "front"), 40), [(40, k ** 40)])

    def test_ranges_keep_near_the_rates(self):
        for k, chain in ALL_CHAINS:
            least, greatest = length_range(k, chain, 40)
            above, below = greatest_rate(k, chain)
            self.assertLess(abs(greatest * below - 40 * above), 6 * below, (k, chain))
            above, below = least_rate(k, chain)
            self.assertLess(abs(least * below - 40 * above), 6 * below, (k, chain))

    def test_first_rows_by_hand(self):
        for k in SIZES:
            self.assertEqual(row_of_length(k, ("same",), 40, 40), [0] * 40)
            self.assertEqual(row_of_length(k, ("double", "double"), 40, 160), [0] * 40)
            self.assertEqual(row_of_length(k, ("halves",), 39, 20), [0] * 39)
            for length in range(1, 41):
                tail = ([1, 0] * 20)[:length - 1]
                first = [0] * (40 - len(tail)) + tail
                self.assertEqual(row_of_length(k, ("drops",), 40, length), first)

    def test_every_length_that_is_counted_has_a_row(self):
        for k, chain in ALL_CHAINS:
            counts = dict(count_lengths(k, chain, 40))
            for length in [*range(max(counts) + 2), 199, 200]:
                row = row_of_length(k, chain, 40, length)
                self.assertEqual(row is not None, length in counts, (k, chain, length))
                if row is not None:
                    self.assertEqual(len(row), 40)
                    self.assertEqual(len(code_of(k, chain, row)), length, (k, chain, length))

    def test_no_row_with_the_same_beginning_is_earlier(self):
        for k, last in ((2, 5), (3, 3)):
            for chain in family(k):
                counts = count_lengths(k, chain, 40)
                for length in sorted({counts[0][0], counts[len(counts) // 2][0], counts[-1][0]}):
                    row = row_of_length(k, chain, 40, length)
                    for tail in product(range(k), repeat=last):
                        if list(tail) < row[-last:]:
                            earlier = row[:-last] + list(tail)
                            self.assertNotEqual(len(code_of(k, chain, earlier)), length, (k, chain, row))

    def test_lengths_that_none_has(self):
        for k, chain in ALL_CHAINS:
            for many in (1, 20, 40):
                self.assertIsNone(row_of_length(k, chain, many, 200))
                self.assertIsNone(row_of_length(k, chain, many, 0))


class Calls(unittest.TestCase):
    def test_wrong_arguments(self):
        for function in (length_range, count_lengths):
            for k in SIZES:
                wrong = [
                    (0, InvalidSize, WRONG_SIZES),
                    (1, InvalidChain, wrong_chains(k)),
                    (2, InvalidCount, wrong_counts(40)),
                ]
                assert_first_error(self, function, [k, ("drops",), 5], wrong)

    def test_wrong_arguments_of_row_of_length(self):
        for k in SIZES:
            wrong = [
                (0, InvalidSize, WRONG_SIZES),
                (1, InvalidChain, wrong_chains(k)),
                (2, InvalidCount, wrong_counts(40)),
                (3, InvalidCount, wrong_counts(200)),
            ]
            assert_first_error(self, row_of_length, [k, ("drops",), 5, 3], wrong)

    def test_limits(self):
        for k in SIZES:
            self.assertEqual(length_range(k, ("same",), 40), (40, 40))
            self.assertIsNone(row_of_length(k, ("same",), 40, 200))
            self.assertEqual(row_of_length(k, ("same",), 40, 40), [0] * 40)

    def test_each_answer_is_new(self):
        for k, chain in ALL_CHAINS:
            counts = count_lengths(k, chain, 6)
            kept = list(counts)
            counts.clear()
            self.assertEqual(count_lengths(k, chain, 6), kept)
            length = kept[0][0]
            row = row_of_length(k, chain, 6, length)
            kept_row = list(row)
            row.append(9)
            self.assertEqual(row_of_length(k, chain, 6, length), kept_row)


if __name__ == "__main__":
    unittest.main()
