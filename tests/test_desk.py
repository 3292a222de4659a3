"""Point 9.1: a desk, on which one chain reads signs that are put, taken back and read again."""

import random
import unittest
from itertools import product
from unittest.mock import ANY

from rowcoders.coders import code_of, family, written_along
from rowcoders.desk import Desk
from rowcoders.errors import InvalidChain, InvalidSign, InvalidSize, NothingToUndo, TooLong
from tests.plain import ALL_CHAINS, SIZES, chain_along, joined, plain_code, random_row
from tests.wrong import WRONG_SIZES, assert_first_error, assert_raises_just, wrong_chains, wrong_signs

FEW_CHAINS = (("twos",), ("drops", "double"), ("front", "twos"), ("halves", "flags1"))


def desk_behind(k, chain, row):
    desk = Desk(k, chain)
    for sign in row:
        desk.put(sign)
    return desk


def undone_all(desk):
    signs = []
    while len(desk):
        signs.append(desk.undo())
    return signs


def redone_all(desk):
    """All that can be read again, in this sequence; a desk reads at most 40 signs."""
    signs = []
    for _ in range(41):
        try:
            signs.append(desk.redo())
        except NothingToUndo:
            break
    return signs


def told_by(desk):
    """All that a desk tells, its history too; the desk itself is left as it is."""
    ahead, behind = redone_all(desk.copy()), undone_all(desk.copy())
    return desk.row(), desk.written(), desk.code(), len(desk), ahead, behind


class Model:
    """A desk as 9.1 words it: the signs, and those taken back, the last one at the end."""

    def __init__(self):
        self.signs = []
        self.undone = []

    def does(self, act):
        """Do what a desk does at a sign, "undo" or "redo", and return the sign, or None if there is none."""
        if act == "undo":
            if not self.signs:
                return None
            self.undone.append(self.signs.pop())
            return self.undone[-1]
        if act == "redo":
            if not self.undone:
                return None
            self.signs.append(self.undone.pop())
            return self.signs[-1]
        self.signs.append(act)
        self.undone.clear()
        return act


class DeskTest(unittest.TestCase):
    def assert_like_model(self, desk, k, chain, model, why):
        row = desk.row()
        self.assertEqual(row, model.signs, why)
        self.assertEqual(len(desk), len(row), why)
        self.assertEqual(desk.written(), joined(chain_along(k, chain, row)[0]), why)
        self.assertEqual(desk.code(), plain_code(k, chain, row), why)

    def do(self, desk, k, chain, model, act):
        """Do the same at the desk and at its model, and compare what they tell of it."""
        told = model.does(act)
        if act not in ("undo", "redo"):
            self.assertEqual(desk.put(act), chain_along(k, chain, model.signs)[0][-1], (k, chain, model.signs))
        elif told is not None:
            self.assertEqual(desk.undo() if act == "undo" else desk.redo(), told)
        else:
            with self.assertRaises(NothingToUndo):
                desk.undo() if act == "undo" else desk.redo()


class Reading(DeskTest):
    def test_the_example_of_9_1(self):
        d = Desk(2, ("twos",))
        d.put(1)
        d.put(1)
        self.assertEqual(d.code(), [1, 1, 0])

    def test_a_new_desk(self):
        for k, chain in ALL_CHAINS:
            desk = Desk(k, chain)
            self.assertEqual((desk.row(), desk.written(), desk.code(), len(desk)), ([], [], [], 0))

    def test_signs_put_by_hand(self):
        desk = Desk(3, ("twos",))
        self.assertEqual([desk.put(sign) for sign in (0, 0, 0, 1, 2, 2)], [[0], [0], [], [1, 1], [2], [2]])
        self.assertEqual(desk.row(), [0, 0, 0, 1, 2, 2])
        self.assertEqual(desk.written(), [0, 0, 1, 1, 2, 2])
        self.assertEqual(desk.code(), [0, 0, 1, 1, 2, 2, 0])
        self.assertEqual(desk.undo(), 2)
        self.assertEqual(desk.code(), [0, 0, 1, 1, 2])
        self.assertEqual(desk.redo(), 2)
        self.assertEqual(desk.put(0), [0, 0])

    def test_all_chains_sign_by_sign(self):
        for k, chain in ALL_CHAINS:
            chance = random.Random(repr((k, chain)))
            for row in (random_row(chance, k, 40), [k - 1] * 40, [0] * 40):
                written = written_along(k, chain, row)
                desk = Desk(k, chain)
                for at, sign in enumerate(row):
                    self.assertEqual(desk.put(sign), written[at], (k, chain, row[:at + 1]))
                    self.assertEqual(desk.row(), row[:at + 1])
                    self.assertEqual(desk.written(), joined(written[:at + 1]))
                    self.assertEqual(desk.code(), code_of(k, chain, row[:at + 1]))
                    self.assertEqual(len(desk), at + 1)

    def test_written_and_code_go_back_sign_by_sign(self):
        for k, chain in ALL_CHAINS:
            row = random_row(random.Random(repr((k, chain))), k, 12)
            desk = desk_behind(k, chain, row)
            for left in range(11, -1, -1):
                self.assertEqual(desk.undo(), row[left])
                self.assertEqual(desk.row(), row[:left])
                self.assertEqual(desk.written(), joined(written_along(k, chain, row[:left])), (k, chain, row[:left]))
                self.assertEqual(desk.code(), code_of(k, chain, row[:left]))
            for many in range(1, 13):
                self.assertEqual(desk.redo(), row[many - 1])
                self.assertEqual(desk.code(), code_of(k, chain, row[:many]))


class Histories(DeskTest):
    def run_history(self, k, chain, acts):
        desk, model = Desk(k, chain), Model()
        for act in acts:
            self.do(desk, k, chain, model, act)
        self.assert_like_model(desk, k, chain, model, (k, chain, acts))
        return desk, model

    def test_every_short_history_of_all_chains(self):
        for k, chain in ALL_CHAINS:
            for many in range(5 if k == 2 else 4):
                for acts in product((*range(k), "undo", "redo"), repeat=many):
                    self.run_history(k, chain, acts)

    def test_every_longer_history_of_some_chains(self):
        for k, many in ((2, 6), (3, 5)):
            for chain in FEW_CHAINS:
                for acts in product((*range(k), "undo", "redo"), repeat=many):
                    desk, model = self.run_history(k, chain, acts)
                    self.assertEqual(redone_all(desk.copy()), model.undone[::-1], (k, chain, acts))
                    self.assertEqual(undone_all(desk.copy()), model.signs[::-1], (k, chain, acts))

    def test_drawn_histories_of_all_chains(self):
        for k, chain in ALL_CHAINS:
            chance = random.Random(repr((k, chain)))
            desk, model = Desk(k, chain), Model()
            for _ in range(120):
                act = chance.choice((*range(k), 0, 0, "undo", "undo", "undo", "redo", "redo"))
                if len(desk) == 40 and act not in ("undo", "redo"):
                    act = "undo"
                self.do(desk, k, chain, model, act)
                self.assert_like_model(desk, k, chain, model, (k, chain))

    def test_undo_and_redo_at_their_ends(self):
        for k, chain in ALL_CHAINS:
            desk = Desk(k, chain)
            row = [1, 1, 0, k - 1]
            for call in (desk.undo, desk.redo):
                assert_raises_just(self, call, [], NothingToUndo)
            for sign in row:
                desk.put(sign)
                assert_raises_just(self, desk.redo, [], NothingToUndo)
            self.assertEqual(undone_all(desk), row[::-1])
            assert_raises_just(self, desk.undo, [], NothingToUndo)
            self.assertEqual(redone_all(desk), row)
            assert_raises_just(self, desk.redo, [], NothingToUndo)
            self.assertEqual(desk.row(), row)

    def test_a_new_sign_clears_what_can_be_redone(self):
        for k, chain in ALL_CHAINS:
            for sign in range(k):
                desk = desk_behind(k, chain, [0, 1, 1, 0])
                self.assertEqual((desk.undo(), desk.undo()), (0, 1))
                # The very sign that would be read again clears it, too.
                desk.put(sign)
                assert_raises_just(self, desk.redo, [], NothingToUndo)
                self.assertEqual(desk.row(), [0, 1, sign])
                self.assertEqual((desk.undo(), desk.redo()), (sign, sign))
                self.assertEqual(undone_all(desk), [sign, 1, 0])
                self.assertEqual(redone_all(desk), [0, 1, sign])


class FortySigns(DeskTest):
    def test_the_41st_sign(self):
        for k, chain in ALL_CHAINS:
            row = random_row(random.Random(repr((k, chain))), k, 40)
            desk = desk_behind(k, chain, row[:39])
            self.assertEqual(desk.put(row[39]), written_along(k, chain, row)[39])
            kept = told_by(desk)
            for sign in range(k):
                assert_raises_just(self, desk.put, [sign], TooLong)
            self.assertEqual(told_by(desk), kept)
            self.assertEqual(desk.code(), code_of(k, chain, row))
            self.assertEqual(desk.undo(), row[39])
            desk.put(0)
            self.assertEqual(desk.row(), row[:39] + [0])
            self.assertEqual(len(desk), 40)

    def test_forty_signs_taken_back_and_read_again(self):
        for k, chain in ALL_CHAINS:
            row = random_row(random.Random(repr((k, chain))), k, 40)
            desk = desk_behind(k, chain, row)
            self.assertEqual(undone_all(desk), row[::-1])
            self.assertEqual((desk.row(), desk.written(), desk.code()), ([], [], []))
            self.assertEqual(redone_all(desk), row)
            self.assertEqual(desk.code(), code_of(k, chain, row))
            assert_raises_just(self, desk.put, [0], TooLong)


class Copies(DeskTest):
    def test_the_same_state_and_history(self):
        for k, chain in ALL_CHAINS:
            row = random_row(random.Random(repr((k, chain))), k, 9)
            desk = desk_behind(k, chain, row)
            for _ in range(4):
                desk.undo()
            other = desk.copy()
            self.assertIsInstance(other, Desk)
            self.assertIsNot(other, desk)
            self.assertEqual(other, desk)
            self.assertEqual(told_by(other), told_by(desk))
            self.assertEqual(told_by(other.copy()), told_by(desk))
            self.assertEqual(undone_all(other), row[4::-1])
            self.assertEqual(redone_all(other), row)

    def acts(self, k):
        """Each changes a desk with five signs and two taken back."""
        return (
            lambda desk: desk.put(k - 1), lambda desk: desk.put(0), lambda desk: desk.undo(),
            lambda desk: desk.redo(), undone_all, redone_all, lambda desk: [desk.put(1) for _ in range(35)],
        )

    def test_independent_both_ways(self):
        for k, chain in ALL_CHAINS[::3]:
            for act in self.acts(k):
                desk = desk_behind(k, chain, [0, 1, 1, 0, 0, 0, 1])
                desk.undo()
                desk.undo()
                other = desk.copy()
                kept = told_by(desk)
                act(other)
                self.assertEqual(told_by(desk), kept, (k, chain))
                self.assertNotEqual(told_by(other), kept, (k, chain))
                third = desk.copy()
                act(desk)
                self.assertEqual(told_by(third), kept, (k, chain))
                self.assertEqual(told_by(other), told_by(desk), (k, chain))

    def test_a_copy_of_a_new_desk(self):
        for k, chain in ALL_CHAINS:
            desk = Desk(k, chain)
            other = desk.copy()
            other.put(1)
            self.assertEqual((len(desk), len(other)), (0, 1))
            assert_raises_just(self, desk.undo, [], NothingToUndo)
            desk.put(0)
            self.assertEqual((desk.row(), other.row()), ([0], [1]))


class Equality(DeskTest):
    def assert_equal_both_ways(self, one, other):
        self.assertIs(one == other, True)
        self.assertIs(other == one, True)
        self.assertIs(one != other, False)
        self.assertIs(other != one, False)

    def assert_unlike_both_ways(self, one, other):
        self.assertIs(one == other, False)
        self.assertIs(other == one, False)
        self.assertIs(one != other, True)
        self.assertIs(other != one, True)

    def test_equal_desks(self):
        for k, chain in ALL_CHAINS:
            for row in ([], [0], [1, 0, k - 1]):
                self.assert_equal_both_ways(desk_behind(k, chain, row), desk_behind(k, chain, row))
            desk = desk_behind(k, chain, [1])
            self.assert_equal_both_ways(desk, desk)

    def test_unlike_k(self):
        for chain in family(2):
            for row in ([], [0, 1, 1]):
                self.assert_unlike_both_ways(desk_behind(2, chain, row), desk_behind(3, chain, row))

    def test_unlike_chains(self):
        for k in SIZES:
            chains = family(k)
            for row in ([], [0, 1]):
                desks = [desk_behind(k, chain, row) for chain in chains]
                for at, desk in enumerate(desks):
                    for other in desks[:at]:
                        self.assert_unlike_both_ways(desk, other)
        # Chains that are the same (0.8) are unlike chains all the same.
        self.assert_unlike_both_ways(Desk(2, ("delta",)), Desk(2, ("front",)))
        self.assert_unlike_both_ways(Desk(3, ("same",)), Desk(3, ("same", "same")))

    def test_unlike_rows(self):
        for k, chain in ALL_CHAINS:
            rows = [[], [0], [1], [0, 0], [0, 1], [1, 0], [0, 0, 0], [0] * 40, [0] * 39 + [1]]
            desks = [desk_behind(k, chain, row) for row in rows]
            for at, desk in enumerate(desks):
                for other in desks[:at]:
                    self.assert_unlike_both_ways(desk, other)

    def test_equal_rows_by_unlike_histories(self):
        for k, chain in ALL_CHAINS:
            straight = desk_behind(k, chain, [0, 1])
            turned = desk_behind(k, chain, [0, 1, 1, k - 1])
            turned.undo()
            turned.undo()
            self.assert_equal_both_ways(straight, turned)
            changed = desk_behind(k, chain, [0, 0])
            changed.undo()
            changed.put(1)
            self.assert_equal_both_ways(straight, changed)
            self.assert_equal_both_ways(turned, changed)
            empty = desk_behind(k, chain, [1])
            empty.undo()
            self.assert_equal_both_ways(empty, Desk(k, chain))
            turned.redo()
            self.assert_unlike_both_ways(straight, turned)

    def test_other_objects(self):
        class Alike:
            """An object that tells the same as a desk."""

            _k, _chain, _signs = 2, ("same",), [0, 1]

            def row(self):
                return [0, 1]

        desk = desk_behind(2, ("same",), [0, 1])
        others = (
            None, True, False, 0, 1, 2, "", "same", "01", b"", 1.5, [], [0, 1], (), (0, 1), ("same",), {}, {0, 1},
            (2, ("same",), [0, 1]), [2, ("same",), [0, 1]], [desk], (desk,), Desk, Alike(), object(), len, desk.row,
        )
        for other in others:
            self.assert_unlike_both_ways(desk, other)
            self.assert_unlike_both_ways(Desk(2, ("same",)), other)
        # This one says of itself that it is equal to anything; a desk does not.
        self.assertIs(desk == ANY, False)

    def test_comparing_changes_nothing(self):
        desk, other = desk_behind(2, ("twos",), [0, 0, 1]), desk_behind(2, ("twos",), [0])
        desk.undo()
        kept = told_by(desk), told_by(other)
        self.assertNotEqual(desk, other)
        self.assertEqual((told_by(desk), told_by(other)), kept)


class Calls(DeskTest):
    def test_wrong_arguments_of_a_new_desk(self):
        for k in SIZES:
            wrong = [(0, InvalidSize, WRONG_SIZES), (1, InvalidChain, wrong_chains(k))]
            assert_first_error(self, Desk, [k, ("drops",)], wrong)

    def test_wrong_signs(self):
        for k in SIZES:
            for chain in FEW_CHAINS:
                desk = desk_behind(k, chain, [0, 0, 1, 1])
                desk.undo()
                kept = told_by(desk)
                for sign in wrong_signs(k):
                    assert_raises_just(self, desk.put, [sign], InvalidSign)
                    self.assertEqual(told_by(desk), kept, (k, chain, sign))
                self.assertEqual(desk.redo(), 1)

    def test_a_wrong_sign_behind_40_signs(self):
        for k in SIZES:
            desk = desk_behind(k, ("twos",), [0, 1] * 20)
            for sign in wrong_signs(k):
                assert_raises_just(self, desk.put, [sign], InvalidSign)
            assert_raises_just(self, desk.put, [0], TooLong)
            self.assertEqual(desk.row(), [0, 1] * 20)

    def test_calls_that_raise_change_nothing(self):
        for k, chain in ALL_CHAINS:
            for row, taken in (([], 0), ([1], 1), ([0, 1, 1], 0), ([0, 1, 1], 3), ([1, 1, 0, 0], 2), ([1] * 40, 0)):
                desk = desk_behind(k, chain, row)
                for _ in range(taken):
                    desk.undo()
                kept = told_by(desk)
                for sign in (k, -1, True, None, "0", [0]):
                    assert_raises_just(self, desk.put, [sign], InvalidSign)
                if len(desk) == 40:
                    assert_raises_just(self, desk.put, [0], TooLong)
                if not len(desk):
                    assert_raises_just(self, desk.undo, [], NothingToUndo)
                if not taken:
                    assert_raises_just(self, desk.redo, [], NothingToUndo)
                self.assertEqual(told_by(desk), kept, (k, chain, row))

    def test_lists_that_are_modified_change_nothing(self):
        for k, chain in ALL_CHAINS:
            desk = desk_behind(k, chain, [0, 0, 1, 1])
            desk.undo()
            kept = told_by(desk)
            spoiling = (lambda signs: signs.append(0), lambda signs: signs.clear(), lambda signs: signs.reverse())
            for call in (desk.row, desk.written, desk.code):
                for spoil in spoiling:
                    first, second = call(), call()
                    self.assertIsInstance(first, list)
                    self.assertIsNot(first, second)
                    spoil(first)
                    self.assertEqual(told_by(desk), kept, (k, chain))
            desk.put(0).append(9)
            self.assertEqual(desk.code(), code_of(k, chain, [0, 0, 1, 0]))
            desk.put(1).clear()
            self.assertEqual(desk.written(), joined(written_along(k, chain, [0, 0, 1, 0, 1])))


if __name__ == "__main__":
    unittest.main()
