"""Twins: two different rows with the same code.

Behind the signs that they share, two rows are read side by side. The one with the shorter code
goes on, so that the other one is never ahead by more than is written at one sign or at an end,
and there are only so many pairs of states and leads.
"""

from rowcoders.checks import check_chain, check_size
from rowcoders.machines import Machine


def twins(k, chain):
    """Return a tuple of two different rows with the same code, the earlier one first, or None."""
    check_size(k)
    check_chain(k, chain)
    machine = Machine(k, chain)
    moves = _moves_and_ends(machine)
    ended = len(moves) - 1
    seen = set()
    reached = _parting_pairs(moves, machine.paths)
    at = 0
    while at < len(reached):
        pair, one, other = reached[at]
        at += 1
        if pair == (ended, ended, ()):
            return _in_order(list(one), list(other))
        if pair not in seen:
            seen.add(pair)
            reached.extend(_pairs_behind(moves, pair, one, other))
    return None


def _moves_and_ends(machine):
    """Return, for each state, the tuples (signs, target, written) of its moves and of its end.

    The end leads to one more state, the last one, which no move leaves.
    """
    ended = len(machine.moves)
    moves = []
    for steps, end in zip(machine.moves, machine.ends):
        leaving = [((sign,), target, written) for sign, (target, written) in enumerate(steps)]
        leaving.append(((), ended, end))
        moves.append(leaving)
    moves.append([])
    return moves


def _parting_pairs(moves, paths):
    """Return the pairs of rows that share the first row to a state and make unlike moves there."""
    pairs = []
    for path, leaving in zip(paths, moves):
        for at, move in enumerate(leaving):
            for earlier in leaving[:at]:
                pairs.extend(_paired(_moved(path, earlier), _moved(path, move)))
    return pairs


def _pairs_behind(moves, pair, one, other):
    """Return the pairs behind the moves of the row that stands first, the one that goes on."""
    state, other_state, lead = pair
    pairs = []
    for move in moves[state]:
        pairs.extend(_paired(_moved(one, move), (other_state, other, lead)))
    return pairs


def _moved(row, move):
    signs, target, written = move
    return target, row + signs, written


def _paired(one, other):
    """Return the list of the pair of two sides, or an empty one if their codes are unlike.

    A side is a state, its row, and what it has written that the other side has not. The side
    that goes on first is the one with the shorter code; of two with the same one, the one that
    has not ended, which has the lesser state.
    """
    state, row, lead = one
    other_state, other_row, other_lead = other
    if (len(lead), state) > (len(other_lead), other_state):
        return _paired(other, one)
    if other_lead[:len(lead)] != lead:
        return []
    return [((state, other_state, other_lead[len(lead):]), row, other_row)]


def _in_order(one, other):
    if (len(one), one) < (len(other), other):
        return one, other
    return other, one
