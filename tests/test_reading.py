"""Points 7.1 and 7.2: the chains by which a row, or some row, has a code."""

import random
import unittest

from rowcoders.back import first_row
from rowcoders.coders import coders, family
from rowcoders.errors import InvalidCode, InvalidRow, InvalidSize
from rowcoders.reading import could_code, could_write
from tests.plain import SIZES, listed_codes, listed_rows, plain_code, random_row, random_rows
from tests.unread import READABLE, plain_first_row
from tests.wrong import WRONG_SIZES, assert_first_error, wrong_codes, wrong_rows


class ChainsOfARow(unittest.TestCase):
    def assert_as_listed(self, k, row, code):
        chains = [chain for chain in family(k) if plain_code(k, chain, row) == code]
        self.assertEqual(could_code(k, row, code), chains, (k, row, code))
        return chains

    def test_the_example_of_7_1(self):
        self.assertEqual(could_code(2, [], []), family(2))

    def test_the_empty_row_and_the_empty_code(self):
        for k in SIZES:
            self.assertEqual(could_code(k, [], []), family(k))
            self.assertEqual(could_code(k, [], [0]), [])
            self.assertEqual(could_code(k, [0], []), [])
            self.assertEqual(could_code(k, [1] * 40, []), [])

    def test_rows_by_hand(self):
        self.assertEqual(could_code(2, [1], [1, 1, 1, 1]), [("double", "double")])
        # "flags1" writes the last two signs as a 1 and the count 1.
        doubled = [("double",), ("double", "flags1"), ("double", "same"), ("same", "double")]
        self.assertEqual(could_code(3, [0, 0, 2, 1], [0, 0, 0, 0, 2, 2, 1, 1]), doubled)

    def test_all_codes_of_short_rows(self):
        for k, many in ((2, 31), (3, 40)):
            for at, row in enumerate(listed_rows(k)[:many]):
                for code in sorted({listed_codes(k, chain)[at] for chain in family(k)}):
                    chains = [chain for chain in family(k) if listed_codes(k, chain)[at] == code]
                    self.assertEqual(could_code(k, list(row), list(code)), chains, (k, row, code))

    def test_short_rows_with_codes_of_others(self):
        for k in SIZES:
            chance = random.Random(k)
            for _ in range(150):
                row, code = chance.choice(listed_rows(k)), chance.choice(listed_rows(k))
                at = listed_rows(k).index(row)
                chains = [chain for chain in family(k) if listed_codes(k, chain)[at] == code]
                self.assertEqual(could_code(k, list(row), list(code)), chains, (k, row, code))

    def test_rows_of_up_to_40_signs(self):
        for k in SIZES:
            chance = random.Random(k)
            for row in random_rows(k, 8):
                own = chance.choice(family(k))
                code = plain_code(k, own, row)
                self.assertIn(own, self.assert_as_listed(k, row, code))
                self.assert_as_listed(k, row, code[:-1])
                self.assert_as_listed(k, row, code + [0])
                self.assert_as_listed(k, row, code[::-1])
                self.assert_as_listed(k, row, random_row(chance, k, 200))
            self.assertEqual(could_code(k, [0] * 40, [0] * 160), [("double", "double")])

    def test_arguments_stay_and_the_list_is_new(self):
        for k in SIZES:
            row, code = [0, 1, 1, 0], [0, 1, 1, 0]
            chains = could_code(k, row, code)
            kept = list(chains)
            self.assertIn(("same",), kept)
            chains.clear()
            self.assertEqual((row, code), ([0, 1, 1, 0], [0, 1, 1, 0]))
            self.assertEqual(could_code(k, row, code), kept)

    def test_wrong_arguments(self):
        for k in SIZES:
            wrong = [(0, InvalidSize, WRONG_SIZES), (1, InvalidRow, wrong_rows(k)), (2, InvalidCode, wrong_codes(k))]
            assert_first_error(self, could_code, [k, [0, 1], [0, 1, 1]], wrong)
            with self.assertRaises(InvalidRow):
                could_code(k, [0] * 41, [0] * 41)
            with self.assertRaises(InvalidCode):
                could_code(k, [0] * 40, [0] * 201)


class ChainsThatWrite(unittest.TestCase):
    def test_the_example_of_7_2(self):
        self.assertNotIn(("double",), could_write(2, [0]))

    def test_codes_by_hand(self):
        for k in SIZES:
            self.assertEqual(could_write(k, []), family(k))
            singles = [chain[0] for chain in could_write(k, [1, 1]) if len(chain) == 1]
            self.assertEqual(singles, [coder for coder in coders(k) if coder not in ("drops", "twos")])
            writing = could_write(k, [1, 1, 0])
            for coder in ("drops", "double"):
                for chain in family(k):
                    if chain[-1] == coder:
                        self.assertNotIn(chain, writing)

    def assert_as_rows_tell(self, k, code):
        chains = could_write(k, code)
        self.assertEqual(chains, [chain for chain in family(k) if first_row(k, chain, code) is not None], (k, code))
        readable = [chain for size, chain in READABLE if size == k]
        rows = [chain for chain in readable if plain_first_row(k, chain, code) is not None]
        self.assertEqual([chain for chain in chains if chain in readable], rows, (k, code))
        return chains

    def test_short_codes(self):
        for k in SIZES:
            for code in listed_rows(k)[:40]:
                chains = self.assert_as_rows_tell(k, list(code))
                listed = [chain for chain in family(k) if code in listed_codes(k, chain)]
                self.assertTrue(all(chain in chains for chain in listed), (k, code))

    def test_codes_of_up_to_200_signs(self):
        for k in SIZES:
            chance = random.Random(k)
            for length in (1, 3, 10, 40, 41, 100, 199, 200):
                for code in ([0] * length, [1] * length, random_row(chance, k, length)):
                    self.assert_as_rows_tell(k, code)
            for row in random_rows(k, 6):
                own = chance.choice(family(k))
                self.assertIn(own, self.assert_as_rows_tell(k, plain_code(k, own, row)))

    def test_the_code_stays_and_the_list_is_new(self):
        for k in SIZES:
            code = [0, 0, 1, 1]
            chains = could_write(k, code)
            kept = list(chains)
            chains.clear()
            self.assertEqual(code, [0, 0, 1, 1])
            self.assertEqual(could_write(k, code), kept)

    def test_wrong_arguments(self):
        for k in SIZES:
            wrong = [(0, InvalidSize, WRONG_SIZES), (1, InvalidCode, wrong_codes(k))]
            assert_first_error(self, could_write, [k, [0, 1, 1]], wrong)


if __name__ == "__main__":
    unittest.main()
