"""A desk: one chain reads signs that are put one by one, and taken back."""

from rowcoders.chains import chain_end, chain_start, chain_step
from rowcoders.checks import LONGEST_ROW, check_chain, check_size, is_sign
from rowcoders.errors import InvalidSign, NothingToUndo, TooLong


class Desk:
    """A chain and the signs that it has read."""

    def __init__(self, k, chain):
        check_size(k)
        check_chain(k, chain)
        self._k = k
        self._chain = chain
        self._signs = []
        # The signs that are taken back, the last one of them at the end.
        self._undone = []
        # What is written at each sign, and the state behind it; one state more stands ahead of all signs.
        self._parts = []
        self._states = [chain_start(k, chain)]

    def __eq__(self, other):
        return (
            isinstance(other, Desk)
            and self._k == other._k
            and self._chain == other._chain
            and self._signs == other._signs
        )

    def __len__(self):
        return len(self._signs)

    def put(self, sign):
        """Read a sign, and return the list of what is written at it."""
        if not is_sign(self._k, sign):
            raise InvalidSign("a sign is an integer from 0 to k - 1")
        if len(self._signs) == LONGEST_ROW:
            raise TooLong("a row has at most 40 signs")
        self._undone = []
        self._read(sign)
        return list(self._parts[-1])

    def row(self):
        """Return the list of the signs that are not undone."""
        return list(self._signs)

    def written(self):
        """Return the list of all that is written at these signs, without what would be at the end."""
        signs = []
        for part in self._parts:
            signs.extend(part)
        return signs

    def code(self):
        """Return the code of the row."""
        return self.written() + chain_end(self._k, self._chain, self._states[-1])

    def undo(self):
        """Take the last sign back, and return it."""
        if not self._signs:
            raise NothingToUndo("there is no sign to take back")
        sign = self._signs.pop()
        self._parts.pop()
        self._states.pop()
        self._undone.append(sign)
        return sign

    def redo(self):
        """Read again the sign that was taken back last, and return it."""
        if not self._undone:
            raise NothingToUndo("there is no sign to read again")
        sign = self._undone.pop()
        self._read(sign)
        return sign

    def copy(self):
        """Return an independent desk in the same state, with the same history."""
        other = Desk(self._k, self._chain)
        other._signs = list(self._signs)
        other._undone = list(self._undone)
        other._parts = list(self._parts)
        other._states = list(self._states)
        return other

    def _read(self, sign):
        state, signs = chain_step(self._k, self._chain, self._states[-1], sign)
        self._signs.append(sign)
        self._parts.append(tuple(signs))
        self._states.append(state)
