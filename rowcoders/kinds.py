"""Kinds of states: behind two states of one kind the same is written, whatever follows."""


class Kinds:
    """The kinds of the states of several machines, numbered from 0; one kind may have states of several of them.

    of_states[machine][state] is the kind of a state. moves[kind][sign] is the tuple of the kind behind the sign
    and the tuple of what is written at it.
    """

    def __init__(self, machines):
        # A round tells states apart by one more sign than the round before. Where it finds no more kinds than
        # that one, neither do later rounds.
        kinds = [[0] * len(machine.moves) for machine in machines]
        before, many = 0, 1
        while many > before:
            before = many
            kinds, many = _split_kinds(machines, kinds)
        self.of_states = kinds
        self.moves = _moves_of_kinds(machines, kinds)


def _split_kinds(machines, kinds):
    """Return the kinds by what is written at a sign and by the kinds behind it, and how many there are."""
    numbers = {}
    split = []
    for machine, own in zip(machines, kinds):
        numbered = []
        for steps in machine.moves:
            shown = tuple(_moves_to_kinds(own, steps))
            numbered.append(numbers.setdefault(shown, len(numbers)))
        split.append(numbered)
    return split, len(numbers)


def _moves_of_kinds(machines, kinds):
    moves = {}
    for machine, own in zip(machines, kinds):
        for kind, steps in zip(own, machine.moves):
            moves[kind] = _moves_to_kinds(own, steps)
    return moves


def _moves_to_kinds(own, steps):
    return [(own[target], written) for target, written in steps]
