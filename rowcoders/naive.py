"""By listing: the same questions, answered by going through all short rows."""

from rowcoders.checks import check_chain, check_count, check_size
from rowcoders.coders import code_of

# The listed rows have at most so many signs.
LONGEST_LISTED = 6


def naive_twins(k, chain, many):
    """Return the first listed row whose code an earlier one has, behind the first such earlier one, or None."""
    check_size(k)
    check_chain(k, chain)
    check_count(many, LONGEST_LISTED)
    first = {}
    for row in _rows_up_to(k, many):
        code = tuple(code_of(k, chain, row))
        if code in first:
            return first[code], row
        first[code] = row
    return None


def naive_parting(k, one, other, many):
    """Return the first listed row that has unlike codes by two chains, or None."""
    check_size(k)
    check_chain(k, one)
    check_chain(k, other)
    check_count(many, LONGEST_LISTED)
    for row in _rows_up_to(k, many):
        if code_of(k, one, row) != code_of(k, other, row):
            return row
    return None


def _rows_up_to(k, many):
    """Return the list of all rows of at most so many signs, in their order."""
    rows = [[]]
    longest = [[]]
    for _ in range(many):
        longest = [row + [sign] for row in longest for sign in range(k)]
        rows.extend(longest)
    return rows
