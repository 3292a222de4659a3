"""Chains: each coder reads what the one before it writes.

The state of a chain is the tuple of the states of its coders.
"""

from rowcoders.steps import read_signs, start_state, written_at_end


def chain_start(k, chain):
    """Return the state of a chain that has read nothing."""
    return tuple([start_state(k, coder) for coder in chain])


def chain_step(k, chain, state, sign):
    """Return the state behind the sign, and the list of what the last coder writes at it."""
    after = []
    signs = [sign]
    for coder, before in zip(chain, state):
        behind, signs = read_signs(k, coder, before, signs)
        after.append(behind)
    return tuple(after), signs


def chain_end(k, chain, state):
    """Return the list of what the last coder writes at the end of a row."""
    signs = []
    for coder, before in zip(chain, state):
        behind, written = read_signs(k, coder, before, signs)
        signs = written + written_at_end(coder, behind)
    return signs
