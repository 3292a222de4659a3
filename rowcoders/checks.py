"""What arguments may be, and the errors for those that may not."""

from rowcoders.errors import (
    InvalidChain, InvalidChains, InvalidCode, InvalidCount, InvalidRow, InvalidSize, InvalidWritten,
)
from rowcoders.steps import coder_names

LONGEST_ROW = 40
LONGEST_CODE = 200


def is_integer(value):
    """Tell whether value is an integer; True and False are none."""
    return isinstance(value, int) and not isinstance(value, bool)


def is_sign(k, value):
    """Tell whether value is one of the k signs."""
    return is_integer(value) and 0 <= value < k


def is_list_of_signs(k, candidate, longest):
    """Tell whether candidate is a list of signs that is not longer than told."""
    return isinstance(candidate, list) and len(candidate) <= longest and _are_signs(k, candidate)


def is_list_of_lists(k, candidate, longest):
    """Tell whether candidate is a list of lists of signs, of which there are not more than told."""
    if not isinstance(candidate, list) or len(candidate) > longest:
        return False
    return all([isinstance(signs, list) and _are_signs(k, signs) for signs in candidate])


def _are_signs(k, values):
    return all([is_sign(k, value) for value in values])


def is_tuple_of_coders(k, candidate):
    """Tell whether candidate is a tuple of one or two coders for k."""
    if not isinstance(candidate, tuple) or len(candidate) not in (1, 2):
        return False
    names = coder_names(k)
    return all([isinstance(value, str) and value in names for value in candidate])


def is_tuple_of_chains(k, candidate):
    """Tell whether candidate is an ascending tuple of one to three chains for k."""
    if not isinstance(candidate, tuple) or len(candidate) not in (1, 2, 3):
        return False
    if not all([is_tuple_of_coders(k, chain) for chain in candidate]):
        return False
    return list(candidate) == sorted(set(candidate))


def check_size(k):
    """Raise InvalidSize if k is not 2 or 3."""
    if not is_integer(k) or k not in (2, 3):
        raise InvalidSize("k must be 2 or 3")


def check_chain(k, chain):
    """Raise InvalidChain if chain is no chain."""
    if not is_tuple_of_coders(k, chain):
        raise InvalidChain("a chain is a tuple of one or two coders")


def check_chains(k, chains):
    """Raise InvalidChains if chains is no ascending tuple of one to three chains."""
    if not is_tuple_of_chains(k, chains):
        raise InvalidChains("chains are an ascending tuple of one to three chains")


def check_row(k, row, longest=LONGEST_ROW):
    """Raise InvalidRow if row is no row, or has more signs than told."""
    if not is_list_of_signs(k, row, longest):
        raise InvalidRow(f"the row is no list of at most {longest} signs")


def check_written(k, written):
    """Raise InvalidWritten if written is no list of lists of signs, or has more than a row has signs."""
    if not is_list_of_lists(k, written, LONGEST_ROW):
        raise InvalidWritten("what was written is a list of at most 40 lists of signs")


def check_code(k, code):
    """Raise InvalidCode if code is no code."""
    if not is_list_of_signs(k, code, LONGEST_CODE):
        raise InvalidCode("a code is a list of at most 200 signs")


def check_count(count, greatest):
    """Raise InvalidCount if count is not an integer from 0 to greatest."""
    if not is_integer(count) or not 0 <= count <= greatest:
        raise InvalidCount(f"a count is an integer from 0 to {greatest}")
