"""Rates: how much a chain writes for each sign in the long run."""

from rowcoders.checks import check_chain, check_size
from rowcoders.loops import extreme_rate, extreme_row
from rowcoders.machines import Machine


def greatest_rate(k, chain):
    """Return the greatest rate of an endless row, as a fraction (above, below)."""
    return extreme_rate(_machine_of(k, chain), 1)


def least_rate(k, chain):
    """Return the least rate of an endless row, as a fraction (above, below)."""
    return extreme_rate(_machine_of(k, chain), -1)


def longest_row(k, chain):
    """Return an endless row (row, loop) with the greatest rate."""
    return extreme_row(_machine_of(k, chain), 1)


def shortest_row(k, chain):
    """Return an endless row (row, loop) with the least rate."""
    return extreme_row(_machine_of(k, chain), -1)


def _machine_of(k, chain):
    check_size(k)
    check_chain(k, chain)
    return Machine(k, chain)
