"""Chains read: by which chains of the family a row, or any row, has a code."""

from rowcoders.back import first_row
from rowcoders.checks import check_code, check_row, check_size
from rowcoders.coders import code_of, family


def could_code(k, row, code):
    """Return the list of the chains of the family by which a row has a code."""
    check_size(k)
    check_row(k, row)
    check_code(k, code)
    return [chain for chain in family(k) if code_of(k, chain, row) == code]


def could_write(k, code):
    """Return the list of the chains of the family by which some row has a code."""
    check_size(k)
    check_code(k, code)
    return [chain for chain in family(k) if first_row(k, chain, code) is not None]
