"""Points 0.2 b, 0.8 and 4.1 to 4.3: which chains are the same, and which one undoes which."""

import random
import unittest

from rowcoders.coders import coders, family
from rowcoders.errors import InvalidChain, InvalidSize
from rowcoders.likeness import failing_row, parting_row, same_as
from tests.plain import ALL_CHAINS, LISTED, SIZES, listed_codes, listed_rows, plain_code, random_row, random_rows
from tests.wrong import WRONG_SIZES, assert_first_error, wrong_chains

# By 0.2 b the second one undoes the first one.
UNDOING = (
    ("sums", "delta"), ("delta", "sums"), ("unfront", "front"), ("front", "unfront"), ("double", "halves"),
    ("same", "same"),
)


def listed_parting(k, one, other):
    for row, code, other_code in zip(listed_rows(k), listed_codes(k, one), listed_codes(k, other)):
        if code != other_code:
            return list(row)
    return None


def listed_failing(k, one, other):
    for row, code in zip(listed_rows(k), listed_codes(k, one)):
        if plain_code(k, other, list(code)) != list(row):
            return list(row)
    return None


class PartingRows(unittest.TestCase):
    def assert_parted_as_listed(self, k, one, other):
        row = parting_row(k, one, other)
        listed = listed_parting(k, one, other)
        if listed is None and row is not None:
            self.assertGreater(len(row), LISTED[k], (k, one, other))
            self.assertNotEqual(plain_code(k, one, row), plain_code(k, other, row), (k, one, other))
        else:
            self.assertEqual(row, listed, (k, one, other))
        self.assertEqual(parting_row(k, other, one), row, (k, one, other))

    def test_the_example_of_4_1(self):
        self.assertIsNone(parting_row(2, ("delta",), ("front",)))

    def test_all_single_coders(self):
        for k in SIZES:
            for one in coders(k):
                for other in coders(k):
                    self.assert_parted_as_listed(k, (one,), (other,))

    def test_all_chains(self):
        for k in SIZES:
            chains = family(k)
            for at, one in enumerate(chains):
                for other in chains[at:]:
                    self.assert_parted_as_listed(k, one, other)

    def test_a_chain_and_itself(self):
        for k, chain in ALL_CHAINS:
            self.assertIsNone(parting_row(k, chain, chain))

    def test_single_coders_that_are_the_same(self):
        for k, pairs in ((2, [("delta", "front"), ("sums", "unfront")]), (3, [])):
            names = coders(k)
            same = [
                (one, other) for one in names for other in names
                if one < other and parting_row(k, (one,), (other,)) is None
            ]
            self.assertEqual(same, pairs)

    def test_rows_by_hand(self):
        for k in SIZES:
            self.assertEqual(parting_row(k, ("same",), ("double",)), [0])
            self.assertEqual(parting_row(k, ("same",), ("drops",)), [0, 0])
            self.assertEqual(parting_row(k, ("halves",), ("drops",)), [0, 1])
            self.assertEqual(parting_row(k, ("same",), ("delta",)), [1, 0])
            self.assertEqual(parting_row(k, ("same",), ("flags1",)), [1])
            self.assertEqual(parting_row(k, ("flags0",), ("flags1",)), [0])
            self.assertIsNone(parting_row(k, ("same",), ("double", "halves")))
        self.assertEqual(parting_row(3, ("same",), ("flags2",)), [2])
        self.assertEqual(parting_row(2, ("delta",), ("sums",)), [1, 0, 0])
        self.assertEqual(parting_row(2, ("delta", "delta"), ("sums", "sums")), [1, 0, 0, 0, 0])

    def test_each_row_is_new(self):
        for k in SIZES:
            row = parting_row(k, ("same",), ("drops",))
            row.append(9)
            self.assertEqual(parting_row(k, ("same",), ("drops",)), [0, 0])

    def test_wrong_arguments(self):
        for k in SIZES:
            wrong = [
                (0, InvalidSize, WRONG_SIZES), (1, InvalidChain, wrong_chains(k)), (2, InvalidChain, wrong_chains(k)),
            ]
            assert_first_error(self, parting_row, [k, ("drops",), ("same", "twos")], wrong)


class SameChains(unittest.TestCase):
    def test_the_example_of_4_2(self):
        self.assertIn(("same",), same_as(3, ("double", "halves")))

    def test_lists_by_hand(self):
        undone = [("delta", "sums"), ("double", "halves"), ("front", "unfront"), ("same", "same")]
        undone += [("sums", "delta"), ("unfront", "front")]
        self.assertEqual(same_as(3, ("same",)), [("same",)] + undone)
        mixed = [("delta", "unfront"), ("front", "sums"), ("sums", "front"), ("unfront", "delta")]
        self.assertEqual(same_as(2, ("same",)), [("same",)] + sorted(undone + mixed))
        delta = [("delta",), ("front",), ("delta", "same"), ("front", "same"), ("same", "delta"), ("same", "front")]
        self.assertEqual(same_as(2, ("delta",)), delta)
        self.assertEqual(same_as(3, ("delta",)), [("delta",), ("delta", "same"), ("same", "delta")])

    def test_just_the_chains_that_no_row_parts(self):
        for k in SIZES:
            chains = family(k)
            for chain in chains:
                same = same_as(k, chain)
                self.assertIn(chain, same)
                rows = {other: parting_row(k, chain, other) for other in chains}
                self.assertEqual(same, [other for other in chains if rows[other] is None])
                for other in chains:
                    if other in same:
                        self.assertEqual(listed_codes(k, other), listed_codes(k, chain), (k, chain, other))
                    else:
                        code = plain_code(k, chain, rows[other])
                        self.assertNotEqual(code, plain_code(k, other, rows[other]), (k, chain, other))

    def test_equal_codes_of_forty_signs(self):
        for k in SIZES:
            chance = random.Random(k)
            rows = [random_row(chance, k, 40) for _ in range(8)] + random_rows(k, 4)
            codes = {chain: [plain_code(k, chain, row) for row in rows] for chain in family(k)}
            for chain in family(k):
                for other in same_as(k, chain):
                    self.assertEqual(codes[other], codes[chain], (k, chain, other))

    def test_each_list_is_new(self):
        for k, chain in ALL_CHAINS[::5]:
            first = same_as(k, chain)
            kept = list(first)
            first.clear()
            self.assertEqual(same_as(k, chain), kept)

    def test_wrong_arguments(self):
        for k in SIZES:
            wrong = [(0, InvalidSize, WRONG_SIZES), (1, InvalidChain, wrong_chains(k))]
            assert_first_error(self, same_as, [k, ("drops",)], wrong)


class FailingRows(unittest.TestCase):
    def test_the_example_of_4_3(self):
        self.assertEqual(failing_row(3, ("halves",), ("double",)), [0])

    def test_all_chains(self):
        for k in SIZES:
            for one in family(k):
                for other in family(k):
                    row = failing_row(k, one, other)
                    listed = listed_failing(k, one, other)
                    if listed is None and row is not None:
                        self.assertGreater(len(row), LISTED[k], (k, one, other))
                        self.assertNotEqual(plain_code(k, other, plain_code(k, one, row)), row, (k, one, other))
                    else:
                        self.assertEqual(row, listed, (k, one, other))

    def test_coders_that_undo(self):
        for k in SIZES:
            for one, other in UNDOING:
                self.assertIsNone(failing_row(k, (one,), (other,)), (k, one, other))
            self.assertEqual(failing_row(k, ("halves",), ("double",)), [0])

    def test_no_other_single_coders_undo(self):
        for k in SIZES:
            undoing = {(one, other) for one in coders(k) for other in coders(k) if not failing_row(k, (one,), (other,))}
            mixed = {("delta", "unfront"), ("front", "sums"), ("sums", "front"), ("unfront", "delta")}
            self.assertEqual(undoing, set(UNDOING) | mixed if k == 2 else set(UNDOING))

    def test_chains_of_two_that_undo(self):
        for k in SIZES:
            for one, undoes_one in UNDOING:
                for other, undoes_other in UNDOING:
                    self.assertIsNone(failing_row(k, (one, other), (undoes_other, undoes_one)), (k, one, other))

    def test_long_codes_between_the_chains(self):
        for k in SIZES:
            chance = random.Random(k)
            rows = [random_row(chance, k, 40) for _ in range(6)]
            for one, other in (
                (("double", "double"), ("halves", "halves")),
                (("double", "sums"), ("delta", "halves")),
                (("front", "double"), ("halves", "unfront")),
            ):
                self.assertIsNone(failing_row(k, one, other))
                for row in rows:
                    code = plain_code(k, one, row)
                    self.assertGreater(len(code), 40)
                    self.assertEqual(plain_code(k, other, code), row)
            self.assertEqual(failing_row(k, ("double", "double"), ("drops", "halves")), [0, 0])
            self.assertEqual(failing_row(k, ("double", "double"), ("halves", "drops")), [0, 0])
            self.assertEqual(failing_row(k, ("double", "double"), ("halves", "same")), [0])

    def test_rows_by_hand(self):
        for k in SIZES:
            self.assertEqual(failing_row(k, ("drops",), ("same",)), [0, 0])
            self.assertEqual(failing_row(k, ("halves",), ("same",)), [0, 0])
            self.assertEqual(failing_row(k, ("same",), ("double",)), [0])
            self.assertEqual(failing_row(k, ("twos",), ("same",)), [0, 0])
            self.assertEqual(failing_row(k, ("same",), ("flags1",)), [1])
        self.assertEqual(failing_row(2, ("delta",), ("delta",)), [1, 0, 0])
        self.assertEqual(failing_row(3, ("delta",), ("delta",)), [1, 0])
        self.assertEqual(failing_row(3, ("flags2",), ("same",)), [2])

    def test_each_row_is_new(self):
        for k in SIZES:
            row = failing_row(k, ("drops",), ("same",))
            row.append(9)
            self.assertEqual(failing_row(k, ("drops",), ("same",)), [0, 0])

    def test_wrong_arguments(self):
        for k in SIZES:
            wrong = [
                (0, InvalidSize, WRONG_SIZES), (1, InvalidChain, wrong_chains(k)), (2, InvalidChain, wrong_chains(k)),
            ]
            assert_first_error(self, failing_row, [k, ("drops",), ("same", "twos")], wrong)


if __name__ == "__main__":
    unittest.main()
