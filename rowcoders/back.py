"""Reading back: the rows that have a code.

A place is a tuple of the state behind some signs of a row, and of how many signs of the code
have been written at them.
"""

from rowcoders.checks import LONGEST_ROW, check_chain, check_code, check_count, check_size
from rowcoders.machines import Machine


def first_row(k, chain, code):
    """Return the first of the shortest rows, of any length, that has a code, or None."""
    _check_all(k, chain, code)
    machine = Machine(k, chain)
    # Each place is reached first by its first shortest row, of which the last step is kept.
    steps = {(0, 0): None}
    reached = [(0, 0)]
    at = 0
    while at < len(reached):
        place = reached[at]
        at += 1
        if _can_end(machine, code, place):
            return _row_to(steps, place)
        for sign, behind in _places_behind(machine, code, place):
            if behind not in steps:
                steps[behind] = (place, sign)
                reached.append(behind)
    return None


def count_rows(k, chain, code, many):
    """Return the number of the rows of so many signs that have a code."""
    _check_all(k, chain, code)
    check_count(many, LONGEST_ROW)
    machine = Machine(k, chain)
    counts = {(0, 0): 1}
    for _ in range(many):
        counts = _counts_behind_sign(machine, code, counts)
    return sum([number for place, number in counts.items() if _can_end(machine, code, place)])


def _check_all(k, chain, code):
    check_size(k)
    check_chain(k, chain)
    check_code(k, code)


def _places_behind(machine, code, place):
    """Return the tuples (sign, place behind it) for the signs at which the code is kept to."""
    state, many = place
    places = []
    for sign, (target, written) in enumerate(machine.moves[state]):
        if _goes_on(code, many, written):
            places.append((sign, (target, many + len(written))))
    return places


def _goes_on(code, many, written):
    return tuple(code[many:many + len(written)]) == written


def _can_end(machine, code, place):
    state, many = place
    end = machine.ends[state]
    return many + len(end) == len(code) and _goes_on(code, many, end)


def _row_to(steps, place):
    row = []
    while steps[place] is not None:
        place, sign = steps[place]
        row.append(sign)
    return row[::-1]


def _counts_behind_sign(machine, code, counts):
    after = {}
    for place, number in counts.items():
        for _, behind in _places_behind(machine, code, place):
            after[behind] = after.get(behind, 0) + number
    return after
