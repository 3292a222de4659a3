"""What arguments may be, and the errors for those that may not."""

from rowcoders.errors import InvalidChain, InvalidCode, InvalidCount, InvalidRow, InvalidSize
from rowcoders.steps import coder_names

LONGEST_ROW = 40
LONGEST_CODE = 200


def is_integer(value):
    """Tell whether value is an integer; True and False are none."""
    return isinstance(value, int) and not isinstance(value, bool)


def is_sign(k, value):
    """Tell whether value is one of the k signs."""
    return is_integer(value) and 0 <= value < k


def is_list_of_signs(k, candidate, longest):
    """Tell whether candidate is a list of signs that is not longer than told."""
    if not isinstance(candidate, list) or len(candidate) > longest:
        return False
    return all([is_sign(k, value) for value in candidate])


def is_tuple_of_coders(k, candidate):
    """Tell whether candidate is a tuple of one or two coders for k."""
    if not isinstance(candidate, tuple) or len(candidate) not in (1, 2):
        return False
    names = coder_names(k)
    return all([isinstance(value, str) and value in names for value in candidate])


def check_size(k):
    """Raise InvalidSize if k is not 2 or 3."""
    if not is_integer(k) or k not in (2, 3):
        raise InvalidSize("k must be 2 or 3")


def check_chain(k, chain):
    """Raise InvalidChain if chain is no chain."""
    if not is_tuple_of_coders(k, chain):
        raise InvalidChain("a chain is a tuple of one or two coders")


def check_row(k, row):
    """Raise InvalidRow if row is no row."""
    if not is_list_of_signs(k, row, LONGEST_ROW):
        raise InvalidRow("a row is a list of at most 40 signs")


def check_code(k, code):
    """Raise InvalidCode if code is no code."""
    if not is_list_of_signs(k, code, LONGEST_CODE):
        raise InvalidCode("a code is a list of at most 200 signs")


def check_count(count, greatest):
    """Raise InvalidCount if count is not an integer from 0 to greatest."""
    if not is_integer(count) or not 0 <= count <= greatest:
        raise InvalidCount(f"a count is an integer from 0 to {greatest}")
