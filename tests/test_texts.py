"""Points 0.4 to 0.6, 10.1 and 10.2: texts of rows and of chains."""

import random
import unittest
from itertools import product

from rowcoders.coders import coders, family, is_chain, is_row
from rowcoders.errors import InvalidChain, InvalidRow, InvalidSize, ParseError
from rowcoders.texts import format_chain, format_row, parse_chain, parse_row
from tests.plain import ALL_CHAINS, SIZES, random_row, rows_up_to
from tests.wrong import (
    WRONG_SIZES, assert_first_error, assert_raises_just, wrong_chain_texts, wrong_chains, wrong_row_texts, wrong_rows,
)

# Figures, other signs, blanks, and signs and figures of other scripts.
SIGNS_OF_TEXTS = (
    "0", "1", "2", "3", "9", "-", "+", "|", ".", "_", "a", "O", " ", "\t", "\n", "\0", "\u0660", "\u0967", "\u00b2",
    "\uff11", "\u2460", "\u4e00", "\u00a0", "\u200b", "\u0301", "\U0001d7d8", "\ud800",
)

PARTS_OF_TEXTS = (
    "same", "twos", "delta", "flags0", "flags1", "flags2", "flags3", "flags", "", " ", "same ", " twos", "Same", "0",
    "\u017fame", "flags\u0660", "flags\uff10", "same\n", "none",
)


def row_said_by(text):
    """What a text would say as a row: its figures as integers, or else what is no sign."""
    return ["0123456789".index(sign) if sign in "0123456789" else sign for sign in text]


class RowTexts(unittest.TestCase):
    def assert_parsed_as_said(self, k, text):
        row = row_said_by(text)
        if is_row(k, row):
            self.assertEqual(parse_row(k, text), row, (k, text))
            self.assertEqual(format_row(k, row), text)
        else:
            assert_raises_just(self, parse_row, [k, text], ParseError)

    def test_the_example_of_10_1(self):
        self.assertEqual(parse_row(3, "021"), [0, 2, 1])

    def test_rows_by_hand(self):
        for k in SIZES:
            self.assertEqual(format_row(k, []), "")
            self.assertEqual(parse_row(k, ""), [])
            self.assertEqual(format_row(k, [0, 1, 1, 0]), "0110")
            self.assertEqual(parse_row(k, "0110"), [0, 1, 1, 0])
            self.assertEqual(format_row(k, [1] * 40), "1" * 40)
        self.assertEqual(format_row(3, [0, 2, 1]), "021")
        assert_raises_just(self, parse_row, [2, "021"], ParseError)

    def test_parse_behind_format(self):
        for k, many in ((2, 8), (3, 6)):
            chance = random.Random(k)
            rows = rows_up_to(k, many) + [random_row(chance, k, length) for length in range(41) for _ in range(5)]
            for row in rows:
                text = format_row(k, row)
                self.assertIs(text.__class__, str)
                self.assertEqual(len(text), len(row))
                self.assertEqual(parse_row(k, text), row)

    def test_rows_in_their_order_have_texts_in_their_order(self):
        for k, many in ((2, 5), (3, 4)):
            texts = [format_row(k, row) for row in rows_up_to(k, many)]
            self.assertEqual(texts, sorted(texts, key=lambda text: (len(text), text)))
            self.assertEqual(len(set(texts)), len(texts))

    def test_every_text_of_few_signs(self):
        for k in SIZES:
            for many in range(4):
                for signs in product(SIGNS_OF_TEXTS, repeat=many):
                    self.assert_parsed_as_said(k, "".join(signs))

    def test_every_sign_alone(self):
        for k in SIZES:
            for number in range(0x3100):
                self.assert_parsed_as_said(k, chr(number))
                if chr(number).isdigit():
                    self.assert_parsed_as_said(k, "0" + chr(number))

    def test_texts_of_40_figures_and_more(self):
        for k in SIZES:
            for figure in "0123456789"[:k]:
                self.assertEqual(parse_row(k, figure * 39), [int(figure)] * 39)
                self.assertEqual(parse_row(k, figure * 40), [int(figure)] * 40)
                for many in (41, 42, 80, 200, 5000):
                    assert_raises_just(self, parse_row, [k, figure * many], ParseError)
            # A code may have 200 signs, but a text is read as a row.
            assert_raises_just(self, format_row, [k, [0] * 41], InvalidRow)

    def test_wrong_arguments(self):
        for k in SIZES:
            wrong = [(0, InvalidSize, WRONG_SIZES), (1, InvalidRow, wrong_rows(k))]
            assert_first_error(self, format_row, [k, [0, 1]], wrong)
            wrong = [(0, InvalidSize, WRONG_SIZES), (1, ParseError, wrong_row_texts(k))]
            assert_first_error(self, parse_row, [k, "01"], wrong)

    def test_the_row_is_new(self):
        for k in SIZES:
            for text in ("", "0", "0110", "1" * 40):
                row = parse_row(k, text)
                kept = list(row)
                self.assertIsNot(parse_row(k, text), row)
                row.append(9)
                self.assertEqual(parse_row(k, text), kept)
            row = [0, 1, 1]
            format_row(k, row)
            self.assertEqual(row, [0, 1, 1])


class ChainTexts(unittest.TestCase):
    def assert_parsed_as_said(self, k, text):
        chain = tuple(text.split("|"))
        if is_chain(k, chain):
            self.assertEqual(parse_chain(k, text), chain, (k, text))
            self.assertEqual(format_chain(k, chain), text)
        else:
            assert_raises_just(self, parse_chain, [k, text], ParseError)

    def test_the_example_of_10_2(self):
        self.assertEqual(format_chain(2, ("delta", "twos")), "delta|twos")

    def test_chains_by_hand(self):
        for k in SIZES:
            self.assertEqual(format_chain(k, ("same",)), "same")
            self.assertEqual(parse_chain(k, "same"), ("same",))
            self.assertEqual(parse_chain(k, "delta|twos"), ("delta", "twos"))
            self.assertEqual(parse_chain(k, "same|same"), ("same", "same"))
        self.assertEqual(parse_chain(3, "flags2|flags2"), ("flags2", "flags2"))
        assert_raises_just(self, parse_chain, [2, "flags2"], ParseError)
        assert_raises_just(self, parse_chain, [2, ""], ParseError)

    def test_parse_behind_format(self):
        for k, chain in ALL_CHAINS:
            text = format_chain(k, chain)
            self.assertIs(text.__class__, str)
            self.assertEqual(parse_chain(k, text), chain)
            self.assertIs(parse_chain(k, text).__class__, tuple)

    def test_no_two_chains_have_the_same_text(self):
        for k in SIZES:
            texts = [format_chain(k, chain) for chain in family(k)]
            self.assertEqual(len(set(texts)), len(texts))

    def test_names_with_other_letters(self):
        for k in SIZES:
            for name in coders(k):
                for text in (
                    name.upper(), name.title(), name + "s", name[:-1], name[1:], " " + name, name + " ", name + "\n",
                    name + "\0", name * 2, name.replace("a", "\u0430"), name.replace("s", "\u017f"), name[::-1],
                ):
                    self.assert_parsed_as_said(k, text)
                    self.assert_parsed_as_said(k, "same|" + text)
                    self.assert_parsed_as_said(k, text + "|same")

    def test_empty_parts_and_more_than_two(self):
        for k in SIZES:
            for name in coders(k):
                for text in (name + "|", "|" + name, name + "||" + name, "|" + name + "|", "|".join([name] * 3)):
                    assert_raises_just(self, parse_chain, [k, text], ParseError)

    def test_every_text_of_few_parts(self):
        for k in SIZES:
            for many in range(1, 4):
                for parts in product(PARTS_OF_TEXTS, repeat=many):
                    self.assert_parsed_as_said(k, "|".join(parts))

    def test_every_text_of_few_signs(self):
        for k in SIZES:
            for many in range(3):
                for signs in product(SIGNS_OF_TEXTS, repeat=many):
                    self.assert_parsed_as_said(k, "".join(signs))
                    self.assert_parsed_as_said(k, "same" + "".join(signs))
                    self.assert_parsed_as_said(k, "same|twos" + "".join(signs))
                    self.assert_parsed_as_said(k, "".join(signs) + "same")

    def test_wrong_arguments(self):
        for k in SIZES:
            wrong = [(0, InvalidSize, WRONG_SIZES), (1, InvalidChain, wrong_chains(k))]
            assert_first_error(self, format_chain, [k, ("same",)], wrong)
            wrong = [(0, InvalidSize, WRONG_SIZES), (1, ParseError, wrong_chain_texts(k))]
            assert_first_error(self, parse_chain, [k, "same|twos"], wrong)


if __name__ == "__main__":
    unittest.main()
