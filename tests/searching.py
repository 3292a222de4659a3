"""A slow and plain search over all plans, for the tests alone.

It reads 0.8 and 8.1 as they stand: every row of signs is tried as a plan would try it, and what each
chain writes is read off the whole row each time. Rows are tuples here.
"""

from functools import cache

from rowcoders.chains import chain_start, chain_step
from tests.plain import chain_along


@cache
def written_at(k, chain, row):
    """What is written at the last sign of a row."""
    return tuple(chain_along(k, chain, list(row))[0][-1])


@cache
def state_behind(k, chain, row):
    if not row:
        return chain_start(k, chain)
    return chain_step(k, chain, state_behind(k, chain, row[:-1]), row[-1])[0]


@cache
def parting_tail_of_states(k, one, state, other, other_state):
    """The first of the shortest lists of signs at whose last one two chains write unlike, or None."""
    pairs = {(state, other_state): ()}
    for pair, tail in iterate_while_growing(pairs):
        for sign in range(k):
            behind, written = chain_step(k, one, pair[0], sign)
            other_behind, other_written = chain_step(k, other, pair[1], sign)
            if written != other_written:
                return tail + (sign,)
            pairs.setdefault((behind, other_behind), tail + (sign,))
    return None


def iterate_while_growing(table):
    """The items of a dict in the order in which they were added, those added meanwhile too."""
    at = 0
    while at < len(table):
        for item in list(table.items())[at:]:
            yield item
            at += 1


def parting_tail(k, one, other, row):
    """The first of the shortest tails behind a row at whose last sign two chains write unlike, or None (0.8)."""
    return parting_tail_of_states(k, one, state_behind(k, one, row), other, state_behind(k, other, row))


def is_found(k, chains, row):
    """Whether all of these chains write the same behind a row."""
    return all(parting_tail(k, chains[0], other, row) is None for other in chains[1:])


def parts_behind(k, chains, row):
    """The chains that are still possible behind a row, for each of what may be written at its last sign."""
    parts = {}
    for chain in chains:
        parts.setdefault(written_at(k, chain, row), []).append(chain)
    return list(parts.values())


def finds_with(k, chains, row, many):
    """Whether the chain is found with at most so many more signs than those of a row, whichever it is."""
    if is_found(k, chains, row):
        return True
    return many > 0 and any(finds_behind(k, chains, row + (sign,), many - 1) for sign in range(k))


def finds_behind(k, chains, row, many):
    return all(finds_with(k, part, row, many) for part in parts_behind(k, chains, row))


def plain_fewest(k, chains, row):
    many = 0
    while not finds_with(k, chains, row, many):
        many += 1
    return many


def plain_best(k, chains, row):
    """The tuple of the fewest signs behind a row, and of the least sign with which such a plan begins, or None."""
    many = plain_fewest(k, chains, row)
    for sign in range(k):
        if many and finds_behind(k, chains, row + (sign,), many - 1):
            return many, sign
    return 0, None


def still_possible(k, chains, row, written):
    """The chains of chains that write this along a row."""
    return [chain for chain in chains if chain_along(k, chain, list(row))[0] == written]
