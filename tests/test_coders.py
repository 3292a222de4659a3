"""Points 0.3 to 0.6 and 1.1: what is a row, what is a chain, which coders and chains there are."""

import unittest

from rowcoders.coders import coders, family, is_chain, is_row
from rowcoders.errors import InvalidSize
from tests.plain import SIZES
from tests.wrong import ANYTHING, WRONG_SIZES, assert_first_error, wrong_chains, wrong_rows

NAMES = {
    2: ["delta", "double", "drops", "flags0", "flags1", "front", "halves", "same", "sums", "twos", "unfront"],
    3: ["delta", "double", "drops", "flags0", "flags1", "flags2", "front", "halves", "same", "sums", "twos", "unfront"],
}


class Lists(unittest.TestCase):
    def test_coders(self):
        for k in SIZES:
            self.assertEqual(coders(k), NAMES[k])

    def test_the_example_of_1_1(self):
        self.assertEqual(len(family(2)), 132)

    def test_family(self):
        self.assertEqual(len(family(3)), 156)
        for k in SIZES:
            pairs = [(one, other) for one in NAMES[k] for other in NAMES[k]]
            self.assertEqual(family(k), [(name,) for name in NAMES[k]] + sorted(pairs))
            self.assertEqual(family(k)[:2], [("delta",), ("double",)])
            self.assertEqual(family(k)[len(NAMES[k])], ("delta", "delta"))
            self.assertEqual(family(k)[-1], ("unfront", "unfront"))

    def test_each_list_is_new(self):
        for k in SIZES:
            for function in (coders, family):
                first = function(k)
                expected = list(first)
                first.clear()
                self.assertEqual(function(k), expected)

    def test_wrong_sizes(self):
        for function in (coders, family):
            assert_first_error(self, function, [2], [(0, InvalidSize, WRONG_SIZES)])


class Rows(unittest.TestCase):
    def test_rows(self):
        for k in SIZES:
            for row in ([], [0], [k - 1], [0, 1] * 20, [k - 1] * 40, list(range(k))):
                self.assertIs(is_row(k, row), True, (k, row))

    def test_forty_signs_and_more(self):
        for k in SIZES:
            for sign in range(k):
                self.assertIs(is_row(k, [sign] * 39), True)
                self.assertIs(is_row(k, [sign] * 40), True)
                self.assertIs(is_row(k, [sign] * 41), False)
                self.assertIs(is_row(k, [sign] * 400), False)

    def test_no_rows(self):
        for k in SIZES:
            for value in wrong_rows(k):
                self.assertIs(is_row(k, value), False, (k, value))

    def test_signs_end_below_k(self):
        self.assertIs(is_row(3, [2]), True)
        self.assertIs(is_row(2, [2]), False)
        self.assertIs(is_row(3, [3]), False)

    def test_booleans_are_no_signs(self):
        for k in SIZES:
            for at in range(3):
                for value in (True, False):
                    row = [0, 1, 0]
                    row[at] = value
                    self.assertIs(is_row(k, row), False)

    def test_wrong_sizes(self):
        assert_first_error(self, is_row, [2, []], [(0, InvalidSize, WRONG_SIZES)])
        for value in ANYTHING:
            with self.assertRaises(InvalidSize):
                is_row(True, value)


class Chains(unittest.TestCase):
    def test_all_of_the_family_are_chains(self):
        for k in SIZES:
            for chain in family(k):
                self.assertIs(is_chain(k, chain), True, (k, chain))

    def test_no_chains(self):
        for k in SIZES:
            for value in wrong_chains(k):
                self.assertIs(is_chain(k, value), False, (k, value))

    def test_flags2_is_a_coder_for_3_alone(self):
        for chain in (("flags2",), ("same", "flags2"), ("flags2", "flags2")):
            self.assertIs(is_chain(3, chain), True)
            self.assertIs(is_chain(2, chain), False)

    def test_lists_are_no_chains(self):
        for k in SIZES:
            for chain in family(k):
                self.assertIs(is_chain(k, list(chain)), False)
                self.assertIs(is_chain(k, (chain,)), False)

    def test_wrong_sizes(self):
        assert_first_error(self, is_chain, [2, ()], [(0, InvalidSize, WRONG_SIZES)])
        for value in ANYTHING:
            with self.assertRaises(InvalidSize):
                is_chain(True, value)


if __name__ == "__main__":
    unittest.main()
