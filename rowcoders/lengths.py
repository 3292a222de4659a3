"""Lengths: how long the codes of all rows of so many signs are."""

from rowcoders.checks import LONGEST_CODE, LONGEST_ROW, check_chain, check_count, check_size
from rowcoders.machines import Machine


def length_range(k, chain, many):
    """Return the tuple (least, greatest) of the lengths of the codes of rows of so many signs."""
    _check_all(k, chain, many)
    counts = _counts(Machine(k, chain), many)
    return min(counts), max(counts)


def count_lengths(k, chain, many):
    """Return the ascending list of the tuples (length, number of the rows with such codes)."""
    _check_all(k, chain, many)
    counts = _counts(Machine(k, chain), many)
    return sorted(counts.items())


def row_of_length(k, chain, many, length):
    """Return the first row of so many signs whose code has the length, or None."""
    _check_all(k, chain, many)
    check_count(length, LONGEST_CODE)
    machine = Machine(k, chain)
    rounds = _possible_lengths(machine, many)
    state = 0
    if not _is_possible(rounds[many][state], length):
        return None
    row = []
    for left in range(many, 0, -1):
        sign = _first_sign(machine.moves[state], rounds[left - 1], length)
        row.append(sign)
        state, written = machine.moves[state][sign]
        length -= len(written)
    return row


def _check_all(k, chain, many):
    check_size(k)
    check_chain(k, chain)
    check_count(many, LONGEST_ROW)


def _counts(machine, many):
    """Return a dict of the numbers of the rows of so many signs by the lengths of their codes."""
    held = {0: {0: 1}}
    for _ in range(many):
        held = _counts_behind_sign(machine.moves, held)
    counts = {}
    for state, lengths in held.items():
        _add_counts(counts, lengths, len(machine.ends[state]))
    return counts


def _counts_behind_sign(moves, held):
    after = {}
    for state, lengths in held.items():
        for target, written in moves[state]:
            _add_counts(after.setdefault(target, {}), lengths, len(written))
    return after


def _add_counts(counts, lengths, more):
    for length, number in lengths.items():
        counts[length + more] = counts.get(length + more, 0) + number


def _possible_lengths(machine, many):
    """Return, for 0 to so many further signs and for each state, what can still be written.

    The lengths are the bits of an integer, so that all of them grow by one shift.
    """
    rounds = [[1 << len(end) for end in machine.ends]]
    for _ in range(many):
        before = rounds[-1]
        after = []
        for steps in machine.moves:
            bits = 0
            for target, written in steps:
                bits |= before[target] << len(written)
            after.append(bits)
        rounds.append(after)
    return rounds


def _is_possible(bits, length):
    return length >= 0 and ((bits >> length) & 1) == 1


def _first_sign(steps, possible, length):
    """Return the least sign behind which the length can still be reached; there is one."""
    for sign, (target, written) in enumerate(steps):
        if _is_possible(possible[target], length - len(written)):
            return sign
    return None
