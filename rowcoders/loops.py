"""The loops of a machine at which most, or least, is written for each sign.

Karp's method: it needs, for each number of signs up to the number of the states, the greatest
worth with which so many signs lead from the start to each state. favour is 1 where what is
written counts for a loop, -1 where it counts against it.
"""

from math import gcd


def extreme_rate(machine, favour):
    """Return the greatest rate of an endless row, or the least one if favour is -1."""
    above, below = _greatest_mean(_worths(machine.moves, favour))
    return favour * above, below


def extreme_row(machine, favour):
    """Return an endless row with that rate: of the shortest loops one, behind a shortest row."""
    rounds = _worths(machine.moves, favour)
    tight = _tight_moves(machine.moves, favour, rounds)
    found, best = 0, None
    for state in range(len(tight)):
        loop = _shortest_loop(tight, state)
        # States with shorter rows come first, so only a shorter loop is better.
        if loop is not None and (best is None or len(loop) < len(best)):
            found, best = state, loop
    return list(machine.paths[found]), best


def _worths(moves, favour):
    rounds = [[0] + [None] * (len(moves) - 1)]
    for _ in range(len(moves)):
        rounds.append(_next_worths(moves, favour, rounds[-1]))
    return rounds


def _next_worths(moves, favour, worths):
    after = [None] * len(moves)
    for state, worth in enumerate(worths):
        if worth is not None:
            for target, written in moves[state]:
                reached = worth + favour * len(written)
                if after[target] is None or reached > after[target]:
                    after[target] = reached
    return after


def _greatest_mean(rounds):
    best = None
    for state, worth in enumerate(rounds[-1]):
        if worth is not None:
            mean = _least_mean(rounds, state)
            if best is None or _is_less(best, mean):
                best = mean
    divisor = gcd(best[0], best[1])
    return best[0] // divisor, best[1] // divisor


def _least_mean(rounds, state):
    many = len(rounds) - 1
    least = None
    for at, worths in enumerate(rounds[:many]):
        if worths[state] is not None:
            mean = (rounds[many][state] - worths[state], many - at)
            if least is None or _is_less(mean, least):
                least = mean
    return least


def _is_less(one, other):
    return one[0] * other[1] < other[0] * one[1]


def _tight_moves(moves, favour, rounds):
    """Return, for each state, the tuples of sign and target of the moves of best loops.

    With each sign charged the greatest mean, no loop gains anything, so every state has a
    greatest height; a loop has the mean just if all of its moves keep to the heights.
    """
    above, below = _greatest_mean(rounds)
    heights = _heights(rounds, above, below)
    tight = []
    for state, steps in enumerate(moves):
        kept = []
        for sign, (target, written) in enumerate(steps):
            gain = below * favour * len(written) - above
            if heights[state] + gain == heights[target]:
                kept.append((sign, target))
        tight.append(kept)
    return tight


def _heights(rounds, above, below):
    heights = []
    for state in range(len(rounds[0])):
        charged = [
            below * worths[state] - above * at
            for at, worths in enumerate(rounds)
            if worths[state] is not None
        ]
        heights.append(max(charged))
    return heights


def _shortest_loop(tight, state):
    """Return the first of the shortest lists of signs from a state back to it, or None."""
    seen = set()
    reached = [([], state)]
    at = 0
    while at < len(reached):
        signs, here = reached[at]
        at += 1
        for sign, target in tight[here]:
            if target == state:
                return signs + [sign]
            if target not in seen:
                seen.add(target)
                reached.append((signs + [sign], target))
    return None
