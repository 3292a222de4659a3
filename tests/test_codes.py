"""Points 0.2 b, 0.6 and 1.2: codes of chains, and what they write along rows."""

import unittest
from copy import deepcopy

from rowcoders.coders import code_of, coders, family, written_along
from rowcoders.errors import InvalidChain, InvalidRow, InvalidSize
from tests.plain import SIZES, chain_along, joined, random_rows, rows_up_to
from tests.wrong import WRONG_SIZES, assert_first_error, wrong_chains, wrong_rows


class Codes(unittest.TestCase):
    def assert_plain(self, k, chain, row):
        written, end = chain_along(k, chain, row)
        self.assertEqual(written_along(k, chain, row), written, (k, chain, row))
        self.assertEqual(code_of(k, chain, row), joined(written) + end, (k, chain, row))

    def test_all_chains_on_short_rows(self):
        for k, many in ((2, 6), (3, 4)):
            for chain in family(k):
                for row in rows_up_to(k, many):
                    self.assert_plain(k, chain, row)

    def test_all_chains_on_random_rows(self):
        for k in SIZES:
            rows = random_rows(k, 25)
            for chain in family(k):
                for row in rows:
                    self.assert_plain(k, chain, row)

    def test_long_codes(self):
        for k in SIZES:
            for row in ([0] * 40, [k - 1] * 40):
                self.assertEqual(code_of(k, ("double", "double"), row), row * 4)

    def test_the_second_coder_reads_the_code_of_the_first(self):
        for k in SIZES:
            for row in random_rows(k, 20):
                for one in coders(k):
                    code = code_of(k, (one,), row)
                    if len(code) <= 40:
                        for other in coders(k):
                            self.assertEqual(code_of(k, (one, other), row), code_of(k, (other,), code))


class ChainsByHand(unittest.TestCase):
    def assert_writes(self, k, chain, row, written, code):
        self.assertEqual(written_along(k, chain, row), written)
        self.assertEqual(code_of(k, chain, row), code)

    def test_several_signs_are_read_at_one(self):
        self.assert_writes(2, ("double", "twos"), [0, 1], [[0, 0], [0, 1, 1]], [0, 0, 0, 1, 1, 0])
        self.assert_writes(2, ("double", "halves"), [0, 1], [[0], [1]], [0, 1])
        self.assert_writes(3, ("flags0", "delta"), [0, 2], [[0], [0, 2]], [0, 0, 2])

    def test_none_is_read_at_a_sign(self):
        self.assert_writes(2, ("drops", "double"), [0, 0, 1], [[0, 0], [], [1, 1]], [0, 0, 1, 1])
        self.assert_writes(2, ("halves", "drops"), [0, 1, 0, 0, 1], [[0], [], [], [], [1]], [0, 1])

    def test_the_second_one_reads_the_end_of_the_first(self):
        self.assert_writes(2, ("twos", "double"), [0, 0], [[0, 0], [0, 0]], [0, 0, 0, 0, 0, 0])
        self.assert_writes(3, ("twos", "sums"), [1, 1, 1], [[1], [2], []], [1, 2, 0])
        self.assert_writes(2, ("flags1", "halves"), [1], [[1]], [1])
        self.assert_writes(2, ("flags1", "drops"), [1], [[1]], [1, 0])

    def test_the_second_one_ends_behind_the_end_of_the_first(self):
        self.assert_writes(2, ("flags0", "flags0"), [0], [[0]], [0, 1])
        self.assert_writes(2, ("flags1", "flags0"), [1], [[1]], [1, 0, 0])
        self.assert_writes(2, ("twos", "twos"), [0, 0], [[0], [0]], [0, 0, 1])
        self.assert_writes(2, ("twos", "twos"), [1, 1], [[1], [1]], [1, 1, 0, 0])
        self.assert_writes(3, ("flags2", "flags0"), [2], [[2]], [2, 0, 0])

    def test_the_empty_row(self):
        for k in SIZES:
            for chain in family(k):
                self.assert_writes(k, chain, [], [], [])

    def test_coders_that_undo(self):
        undoing = (("delta", "sums"), ("sums", "delta"), ("front", "unfront"), ("unfront", "front"), ("double", "halves"))
        for k in SIZES:
            for one, other in undoing:
                for row in rows_up_to(k, 5) + [[0, 1] * 20, [k - 1] * 40]:
                    self.assertEqual(code_of(k, (one, other), row), row)


class Calls(unittest.TestCase):
    def test_wrong_arguments(self):
        for function in (code_of, written_along):
            for k in SIZES:
                wrong = [
                    (0, InvalidSize, WRONG_SIZES),
                    (1, InvalidChain, wrong_chains(k)),
                    (2, InvalidRow, wrong_rows(k)),
                ]
                assert_first_error(self, function, [k, ("twos", "same"), [0, 0, 1]], wrong)

    def test_forty_signs_but_no_more(self):
        for k in SIZES:
            for chain in family(k):
                self.assertEqual(len(written_along(k, chain, [1] * 40)), 40)
                for function in (code_of, written_along):
                    with self.assertRaises(InvalidRow):
                        function(k, chain, [1] * 41)

    def test_the_row_is_not_changed_and_the_answer_is_new(self):
        for k in SIZES:
            for chain in family(k):
                row = [0, 0, 1, 1, 1, 0, k - 1]
                for function in (code_of, written_along):
                    first = function(k, chain, row)
                    kept = deepcopy(first)
                    self.assertEqual(row, [0, 0, 1, 1, 1, 0, k - 1])
                    self.assertIsNot(first, row)
                    for part in [*first, first]:
                        if isinstance(part, list):
                            part.append(9)
                    self.assertEqual(row, [0, 0, 1, 1, 1, 0, k - 1])
                    self.assertEqual(function(k, chain, row), kept)


if __name__ == "__main__":
    unittest.main()
