"""Coders, chains and codes."""

from rowcoders.chains import chain_end, chain_start, chain_step
from rowcoders.checks import LONGEST_ROW, check_chain, check_row, check_size, is_list_of_signs, is_tuple_of_coders
from rowcoders.steps import coder_names


def is_row(k, candidate):
    """Tell whether candidate is a row."""
    check_size(k)
    return is_list_of_signs(k, candidate, LONGEST_ROW)


def is_chain(k, candidate):
    """Tell whether candidate is a chain."""
    check_size(k)
    return is_tuple_of_coders(k, candidate)


def coders(k):
    """Return the ascending list of the coders."""
    check_size(k)
    return coder_names(k)


def family(k):
    """Return the list of all chains, those of one coder first."""
    check_size(k)
    names = coder_names(k)
    singles = [(name,) for name in names]
    return singles + [(name, other) for name in names for other in names]


def code_of(k, chain, row):
    """Return the code of a row."""
    _check_all(k, chain, row)
    written, state = _read_row(k, chain, row)
    code = []
    for signs in written:
        code.extend(signs)
    return code + chain_end(k, chain, state)


def written_along(k, chain, row):
    """Return the list of the lists of what is written at each sign of a row."""
    _check_all(k, chain, row)
    written, _ = _read_row(k, chain, row)
    return written


def _check_all(k, chain, row):
    check_size(k)
    check_chain(k, chain)
    check_row(k, row)


def _read_row(k, chain, row):
    state = chain_start(k, chain)
    written = []
    for sign in row:
        state, signs = chain_step(k, chain, state, sign)
        written.append(signs)
    return written, state
