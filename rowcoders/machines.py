"""The machine of a chain: all states that rows lead to."""

from rowcoders.chains import chain_end, chain_start, chain_step


class Machine:
    """The states of a chain, numbered from 0, the start, as the rows in their order find them.

    moves[state][sign] is the tuple of the state behind the sign and the tuple of what is written
    at it, ends[state] the tuple of what is written at the end, and paths[state] the tuple of the
    signs of the first row that leads to the state.
    """

    def __init__(self, k, chain):
        states = [chain_start(k, chain)]
        numbers = {states[0]: 0}
        self.moves = []
        self.ends = []
        self.paths = [()]
        while len(self.moves) < len(states):
            at = len(self.moves)
            moves = []
            for sign in range(k):
                target, written = chain_step(k, chain, states[at], sign)
                if target not in numbers:
                    numbers[target] = len(states)
                    states.append(target)
                    self.paths.append((*self.paths[at], sign))
                moves.append((numbers[target], tuple(written)))
            self.moves.append(moves)
            self.ends.append(tuple(chain_end(k, chain, states[at])))
