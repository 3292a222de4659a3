"""Texts of rows and chains."""

from rowcoders.checks import LONGEST_ROW, check_chain, check_row, check_size, is_list_of_signs, is_tuple_of_coders
from rowcoders.errors import ParseError

FIGURES = "012"


def format_row(k, row):
    """Return the text of a row: its signs as figures."""
    check_size(k)
    check_row(k, row)
    return "".join([FIGURES[sign] for sign in row])


def parse_row(k, text):
    """Return the row that has a text."""
    check_size(k)
    _check_string(text)
    # A figure that is none of FIGURES is found at -1, which is no sign.
    row = [FIGURES.find(figure) for figure in text]
    if not is_list_of_signs(k, row, LONGEST_ROW):
        raise ParseError("no row has this text")
    return row


def format_chain(k, chain):
    """Return the text of a chain: its coders with a bar between them."""
    check_size(k)
    check_chain(k, chain)
    return "|".join(chain)


def parse_chain(k, text):
    """Return the chain that has a text."""
    check_size(k)
    _check_string(text)
    chain = tuple(text.split("|"))
    if not is_tuple_of_coders(k, chain):
        raise ParseError("no chain has this text")
    return chain


def _check_string(text):
    if not isinstance(text, str):
        raise ParseError("a text is a string")
