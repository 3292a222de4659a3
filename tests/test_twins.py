"""Points 0.2 c and 5.1: whether two rows can have the same code."""

import random
import unittest

from rowcoders.coders import coders, family
from rowcoders.errors import InvalidChain, InvalidSize
from rowcoders.likeness import failing_row
from rowcoders.twins import twins
from tests.plain import ALL_CHAINS, SIZES, listed_codes, plain_code, random_row
from tests.wrong import WRONG_SIZES, assert_first_error, wrong_chains


def is_list_of_signs(k, row):
    return isinstance(row, list) and all(sign.__class__ is int and 0 <= sign < k for sign in row)


class Twins(unittest.TestCase):
    def test_the_example_of_5_1(self):
        self.assertIsNone(twins(2, ("delta",)))

    def test_two_rows_with_the_same_code(self):
        found = 0
        for k, chain in ALL_CHAINS:
            rows = twins(k, chain)
            if rows is not None:
                found += 1
                self.assertIsInstance(rows, tuple)
                one, other = rows
                self.assertTrue(is_list_of_signs(k, one) and is_list_of_signs(k, other), (k, chain))
                self.assertLess((len(one), one), (len(other), other), (k, chain))
                self.assertEqual(plain_code(k, chain, one), plain_code(k, chain, other), (k, chain))
        self.assertGreater(found, 0)

    def test_none_of_the_listed_rows_are_twins_where_there_are_none(self):
        for k, chain in ALL_CHAINS:
            codes = listed_codes(k, chain)
            if twins(k, chain) is None:
                self.assertEqual(len(set(codes)), len(codes), (k, chain))

    def test_no_random_rows_are_twins_where_there_are_none(self):
        for k in SIZES:
            chance = random.Random(k)
            rows = []
            for _ in range(12):
                row = random_row(chance, k, chance.randrange(30, 40))
                rows += [row, row[:-1], row + [row[-1]], row[:7] + row[8:], row[:20] + [0] + row[21:]]
            rows = [list(row) for row in sorted(set(map(tuple, rows)))]
            for chain in family(k):
                if twins(k, chain) is None:
                    codes = {tuple(plain_code(k, chain, row)) for row in rows}
                    self.assertEqual(len(codes), len(rows), (k, chain))

    def test_single_coders(self):
        for k in SIZES:
            having = [coder for coder in coders(k) if twins(k, (coder,)) is not None]
            self.assertEqual(having, ["drops", "halves"])

    def test_chains_of_two(self):
        for k in SIZES:
            losing = ("drops", "halves")
            for chain in family(k):
                if len(chain) == 2 and chain[0] in losing:
                    self.assertIsNotNone(twins(k, chain), (k, chain))
                elif chain[-1] not in losing:
                    self.assertIsNone(twins(k, chain), (k, chain))
            self.assertIsNone(twins(k, ("double", "halves")))
            for coder in coders(k):
                self.assertIsNotNone(twins(k, (coder, "drops")), (k, coder))

    def test_chains_that_some_chain_undoes(self):
        for k in SIZES:
            for chain in family(k):
                if any(failing_row(k, chain, other) is None for other in family(k)):
                    self.assertIsNone(twins(k, chain), (k, chain))

    def test_each_answer_is_new_and_equal(self):
        for k, chain in ALL_CHAINS:
            rows = twins(k, chain)
            if rows is not None:
                kept = ([*rows[0]], [*rows[1]])
                self.assertEqual(twins(k, chain), kept)
                rows[0].append(9)
                rows[1].clear()
                self.assertEqual(twins(k, chain), kept)

    def test_wrong_arguments(self):
        for k in SIZES:
            wrong = [(0, InvalidSize, WRONG_SIZES), (1, InvalidChain, wrong_chains(k))]
            assert_first_error(self, twins, [k, ("drops",)], wrong)


if __name__ == "__main__":
    unittest.main()
