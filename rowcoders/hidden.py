"""Hidden chains: one of some chains is found by chosen signs, from what is written at them."""

from rowcoders.checks import LONGEST_ROW, check_chains, check_row, check_size, check_written
from rowcoders.errors import NoChain
from rowcoders.kinds import Kinds
from rowcoders.machines import Machine
from rowcoders.plans import best_plan


def fewest_signs(k, chains):
    """Return the least number of signs with which a hidden chain is surely found."""
    check_size(k)
    check_chains(k, chains)
    many, _ = _plan_behind(k, chains, [], [])
    return many


def best_sign(k, chains, row, written):
    """Return the least sign with which a plan with the fewest further signs begins, or None if the chain is found."""
    check_size(k)
    check_chains(k, chains)
    # One more sign than the row has must still be a row.
    check_row(k, row, LONGEST_ROW - 1)
    check_written(k, written)
    _, sign = _plan_behind(k, chains, row, written)
    return sign


def _plan_behind(k, chains, row, written):
    machines = [Machine(k, chain) for chain in chains]
    kinds = Kinds(machines)
    possible = []
    for machine, own in zip(machines, kinds.of_states):
        state = _state_behind(machine, row, written)
        if state is not None:
            possible.append(own[state])
    if not possible:
        raise NoChain("no chain of these writes this")
    return best_plan(kinds.moves, tuple(sorted(set(possible))))


def _state_behind(machine, row, written):
    """Return the state behind a row, or None if something else is written at its signs."""
    if len(row) != len(written):
        return None
    state = 0
    for sign, signs in zip(row, written):
        state, told = machine.moves[state][sign]
        if list(told) != signs:
            return None
    return state
