"""Point 11.1: twins and parting rows by listing all short rows."""

import random
import unittest
from functools import cache
from itertools import combinations

from rowcoders.coders import family
from rowcoders.errors import InvalidChain, InvalidCount, InvalidSize
from rowcoders.likeness import parting_row
from rowcoders.naive import naive_parting, naive_twins
from rowcoders.twins import twins
from tests.plain import ALL_CHAINS, SIZES, plain_code, rows_up_to
from tests.wrong import WRONG_SIZES, assert_first_error, assert_raises_just, wrong_chains, wrong_counts


@cache
def all_rows_of_six(k):
    return [tuple(row) for row in rows_up_to(k, 6)]


@cache
def all_codes_of_six(k, chain):
    """The codes of all rows of at most six signs, in the order of the rows."""
    return [tuple(plain_code(k, chain, list(row))) for row in all_rows_of_six(k)]


@cache
def listed_twins(k, chain):
    """The first row of at most six signs whose code an earlier one has, behind the first such earlier one."""
    rows, codes = all_rows_of_six(k), all_codes_of_six(k, chain)
    first = {}
    for at, code in enumerate(codes):
        if code in first:
            return list(rows[first[code]]), list(rows[at])
        first[code] = at
    return None


def listed_parting(k, one, other):
    for row, code, other_code in zip(all_rows_of_six(k), all_codes_of_six(k, one), all_codes_of_six(k, other)):
        if code != other_code:
            return list(row)
    return None


def rows_before(k, row, many):
    """How many of the rows of at most so many signs stand before a row."""
    return sum((len(other), list(other)) < (len(row), row) for other in all_rows_of_six(k) if len(other) <= many)


class NaiveTwins(unittest.TestCase):
    def test_the_example_of_11_1(self):
        self.assertEqual(naive_twins(2, ("drops",), 2), ([0], [0, 0]))

    def test_twins_by_hand(self):
        for k in SIZES:
            self.assertIsNone(naive_twins(k, ("drops",), 0))
            self.assertIsNone(naive_twins(k, ("drops",), 1))
            self.assertEqual(naive_twins(k, ("drops",), 6), ([0], [0, 0]))
            self.assertEqual(naive_twins(k, ("halves",), 2), ([0], [0, 0]))
            self.assertIsNone(naive_twins(k, ("same",), 6))
            self.assertIsNone(naive_twins(k, ("delta",), 6))
            self.assertIsNone(naive_twins(k, ("halves", "halves"), 1))

    def test_all_chains_and_all_numbers_of_signs(self):
        for k, chain in ALL_CHAINS:
            rows = listed_twins(k, chain)
            for many in range(7):
                expected = rows if rows is not None and len(rows[1]) <= many else None
                self.assertEqual(naive_twins(k, chain, many), expected, (k, chain, many))

    def test_it_is_the_first_of_all_pairs(self):
        """The same once more, without looking codes up."""
        for k, many in ((2, 5), (3, 3)):
            rows = rows_up_to(k, many)
            for chain in family(k):
                codes = [plain_code(k, chain, row) for row in rows]
                pairs = [
                    (rows[earlier], rows[at]) for at in range(len(rows)) for earlier in range(at)
                    if codes[earlier] == codes[at]
                ]
                self.assertEqual(naive_twins(k, chain, many), pairs[0] if pairs else None, (k, chain))

    def test_against_twins(self):
        for k, chain in ALL_CHAINS:
            rows = twins(k, chain)
            naive = naive_twins(k, chain, 6)
            if rows is None:
                self.assertIsNone(naive, (k, chain))
            elif len(rows[1]) <= 6:
                self.assertIsNotNone(naive, (k, chain))
                self.assertLessEqual(rows_before(k, naive[1], 6), rows_before(k, rows[1], 6), (k, chain))
                self.assertIsNotNone(naive_twins(k, chain, len(rows[1])), (k, chain))

    def test_kinds_of_the_answers(self):
        for k, chain in ALL_CHAINS:
            rows = naive_twins(k, chain, 3)
            if rows is not None:
                self.assertEqual([part.__class__ for part in (rows, *rows)], [tuple, list, list])
                kept = ([*rows[0]], [*rows[1]])
                rows[0].append(9)
                rows[1].clear()
                self.assertEqual(naive_twins(k, chain, 3), kept)

    def test_wrong_arguments(self):
        for k in SIZES:
            wrong = [
                (0, InvalidSize, WRONG_SIZES), (1, InvalidChain, wrong_chains(k)), (2, InvalidCount, wrong_counts(6)),
            ]
            assert_first_error(self, naive_twins, [k, ("drops",), 2], wrong)
            for many in (7, 8, 40, -1):
                assert_raises_just(self, naive_twins, [k, ("drops",), many], InvalidCount)


class NaiveParting(unittest.TestCase):
    def test_rows_by_hand(self):
        for k in SIZES:
            self.assertEqual(naive_parting(k, ("same",), ("double",), 1), [0])
            self.assertIsNone(naive_parting(k, ("same",), ("double",), 0))
            self.assertEqual(naive_parting(k, ("same",), ("drops",), 6), [0, 0])
            self.assertIsNone(naive_parting(k, ("same",), ("drops",), 1))
            self.assertIsNone(naive_parting(k, ("delta",), ("delta",), 6))
        self.assertIsNone(naive_parting(2, ("delta",), ("front",), 6))
        self.assertEqual(naive_parting(2, ("delta", "delta"), ("sums", "sums"), 5), [1, 0, 0, 0, 0])
        self.assertIsNone(naive_parting(2, ("delta", "delta"), ("sums", "sums"), 4))

    def assert_as_listed(self, k, one, other):
        row = listed_parting(k, one, other)
        for many in range(7):
            expected = row if row is not None and len(row) <= many else None
            self.assertEqual(naive_parting(k, one, other, many), expected, (k, one, other, many))
        self.assertEqual(naive_parting(k, other, one, 6), row, (k, one, other))
        return row

    def test_many_pairs_of_chains(self):
        for k in SIZES:
            pairs = random.Random(k).sample(list(combinations(family(k), 2)), 900)
            for one, other in pairs:
                row = self.assert_as_listed(k, one, other)
                found = parting_row(k, one, other)
                if found is None or len(found) <= 6:
                    self.assertEqual(row, found, (k, one, other))
                else:
                    self.assertIsNone(row, (k, one, other))

    def test_each_chain_and_itself(self):
        for k, chain in ALL_CHAINS:
            self.assertIsNone(naive_parting(k, chain, chain, 4), (k, chain))
            self.assertIsNone(naive_parting(k, chain, chain, 0), (k, chain))

    def test_single_coders(self):
        for k in SIZES:
            singles = [chain for chain in family(k) if len(chain) == 1]
            for one, other in combinations(singles, 2):
                self.assertEqual(self.assert_as_listed(k, one, other), parting_row(k, one, other))

    def test_chains_that_are_parted_late(self):
        late = (("delta", "delta"), ("sums", "sums")), (("halves", "delta"), ("halves", "sums"))
        for one, other in late:
            row = parting_row(2, one, other)
            self.assertEqual(len(row), 5)
            self.assertEqual(self.assert_as_listed(2, one, other), row)

    def test_each_row_is_new(self):
        for k in SIZES:
            row = naive_parting(k, ("same",), ("drops",), 3)
            self.assertIs(row.__class__, list)
            row.append(9)
            self.assertEqual(naive_parting(k, ("same",), ("drops",), 3), [0, 0])

    def test_wrong_arguments(self):
        for k in SIZES:
            wrong = [
                (0, InvalidSize, WRONG_SIZES), (1, InvalidChain, wrong_chains(k)), (2, InvalidChain, wrong_chains(k)),
                (3, InvalidCount, wrong_counts(6)),
            ]
            assert_first_error(self, naive_parting, [k, ("drops",), ("same", "twos"), 2], wrong)


if __name__ == "__main__":
    unittest.main()
