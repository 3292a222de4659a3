"""Likeness: whether two chains write the same for all rows, and whether one undoes another."""

from rowcoders.chains import chain_end, chain_start, chain_step
from rowcoders.checks import check_chain, check_size
from rowcoders.coders import family


def parting_row(k, one, other):
    """Return the first of the shortest rows with unlike codes by two chains, or None."""
    _check_both(k, one, other)
    return _first_unlike(k, one, other)


def same_as(k, chain):
    """Return the list of the chains of the family that are the same as a chain."""
    check_size(k)
    check_chain(k, chain)
    return [other for other in family(k) if _first_unlike(k, chain, other) is None]


def failing_row(k, one, other):
    """Return the first of the shortest rows that other does not give back from its code by one, or None."""
    _check_both(k, one, other)
    # What other reads is all that one writes, so the coders of both are one longer chain.
    return _first_unlike(k, one + other, ("same",))


def _check_both(k, one, other):
    check_size(k)
    check_chain(k, one)
    check_chain(k, other)


def _first_unlike(k, one, other):
    """Return the first of the shortest rows with unlike codes by two tuples of coders, or None.

    Only rows with like codes are read on, and there no side has written more ahead of the other
    one than that one would write at the end: so there are only so many pairs.
    """
    start = (chain_start(k, one), (), chain_start(k, other), ())
    seen = set()
    seen.add(start)
    reached = [([], start)]
    at = 0
    while at < len(reached):
        row, pair = reached[at]
        at += 1
        if _has_unlike_codes(k, one, other, pair):
            return row
        for sign in range(k):
            behind = _pair_behind(k, one, other, pair, sign)
            if behind not in seen:
                seen.add(behind)
                reached.append((row + [sign], behind))
    return None


def _pair_behind(k, one, other, pair, sign):
    """Return the pair behind a sign: for each side the state, and what only it has written."""
    state, lead, other_state, other_lead = pair
    state, written = chain_step(k, one, state, sign)
    other_state, other_written = chain_step(k, other, other_state, sign)
    lead = (*lead, *written)
    other_lead = (*other_lead, *other_written)
    shared = _count_shared(lead, other_lead)
    return state, lead[shared:], other_state, other_lead[shared:]


def _count_shared(signs, others):
    """Return how many signs are the same from the beginning."""
    count = 0
    while count < min(len(signs), len(others)) and signs[count] == others[count]:
        count += 1
    return count


def _has_unlike_codes(k, one, other, pair):
    state, lead, other_state, other_lead = pair
    return (*lead, *chain_end(k, one, state)) != (*other_lead, *chain_end(k, other, other_state))
