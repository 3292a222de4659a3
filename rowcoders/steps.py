"""The single coders: how each one begins, what it writes at a sign, and what at the end.

A coder's state is a tuple of all that it remembers of the signs so far. A step takes k, the
state and a sign, and returns the state behind the sign and the list of what is written at it.
"""

PLAIN_NAMES = ("delta", "double", "drops", "front", "halves", "same", "sums", "twos", "unfront")
FLAG_NAMES = ("flags0", "flags1", "flags2")


def coder_names(k):
    """Return the ascending list of the coders for k."""
    return sorted([*PLAIN_NAMES, *FLAG_NAMES[:k]])


def start_state(k, coder):
    """Return the state of a coder that has read nothing."""
    if coder in ("front", "unfront"):
        return tuple(range(k))
    if coder in FLAG_NAMES:
        return (FLAG_NAMES.index(coder), None)
    if coder == "twos":
        return (None, None)
    if coder == "drops":
        return (None,)
    if coder in ("delta", "sums", "halves"):
        return (0,)
    return ()


def step_same(k, state, sign):
    """Write the sign."""
    return state, [sign]


def step_double(k, state, sign):
    """Write the sign twice."""
    return state, [sign, sign]


def step_halves(k, state, sign):
    """Write every other sign; the state tells whether this one is left out."""
    if state == (0,):
        return (1,), [sign]
    return (0,), []


def step_drops(k, state, sign):
    """Write the sign unless it is the one before it, which is the state."""
    if state == (sign,):
        return state, []
    return (sign,), [sign]


def step_delta(k, state, sign):
    """Write the sign less the one before it, which is the state."""
    return (sign,), [(sign - state[0]) % k]


def step_sums(k, state, sign):
    """Write the sum of all signs so far; the state is the sum before."""
    total = (state[0] + sign) % k
    return (total,), [total]


def step_front(k, state, sign):
    """Write the index of the sign in the list, which is the state."""
    at = state.index(sign)
    return _moved_to_beginning(state, at), [at]


def step_unfront(k, state, sign):
    """Write what has the sign as its index in the list, which is the state."""
    return _moved_to_beginning(state, sign), [state[sign]]


def _moved_to_beginning(state, at):
    return state[at:at + 1] + state[:at] + state[at + 1:]


def step_twos(k, state, sign):
    """Write the sign, or count it; the state is the sign before and the count.

    The sign is None where the next one is compared with none, the count where none goes on.
    """
    before, count = state
    if count is None:
        if sign == before:
            return (sign, 0), [sign]
        return (sign, None), [sign]
    if sign != before:
        return (sign, None), [count, sign]
    if count + 1 == k - 1:
        return (None, None), [count + 1]
    return (before, count + 1), []


def step_flags(k, state, sign):
    """Write the sign, or count it; the state is the coder's own sign and the count.

    The count is None where none goes on.
    """
    flag, count = state
    if count is None:
        if sign == flag:
            return (flag, 0), [sign]
        return state, [sign]
    if sign != flag:
        return (flag, None), [count, sign]
    if count + 1 == k - 1:
        return (flag, None), [count + 1]
    return (flag, count + 1), []


STEPS = {
    "same": step_same,
    "double": step_double,
    "halves": step_halves,
    "drops": step_drops,
    "delta": step_delta,
    "sums": step_sums,
    "front": step_front,
    "unfront": step_unfront,
    "twos": step_twos,
    "flags0": step_flags,
    "flags1": step_flags,
    "flags2": step_flags,
}


def read_signs(k, coder, state, signs):
    """Return the state behind the signs, and the list of all that is written at them."""
    step = STEPS[coder]
    written = []
    for sign in signs:
        state, more = step(k, state, sign)
        written.extend(more)
    return state, written


def written_at_end(coder, state):
    """Return the list of what a coder writes at the end of a row: a count that still goes on."""
    if coder == "twos" or coder in FLAG_NAMES:
        count = state[1]
        if count is not None:
            return [count]
    return []
