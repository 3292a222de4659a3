"""Points 0.2 e, 0.8, 8.1 and 8.2: hidden chains, found by chosen signs."""

import random
import unittest
from copy import deepcopy
from itertools import combinations, product

from rowcoders.coders import family, written_along
from rowcoders.errors import InvalidChains, InvalidRow, InvalidSize, InvalidWritten, NoChain
from rowcoders.hidden import best_sign, fewest_signs
from rowcoders.likeness import parting_row, same_as
from rowcoders.plans import best_plan
from tests.plain import ALL_CHAINS, SIZES, chain_along, random_row
from tests.searching import is_found, parting_tail, plain_best, plain_fewest, still_possible, written_at
from tests.wrong import WRONG_SIZES, assert_first_error, wrong_chain_tuples, wrong_rows, wrong_written

# Chains that need many signs, for k.
HARD = (
    (2, (("halves",), ("halves", "flags1"), ("halves", "twos")), 7),
    (2, (("delta", "delta"), ("sums", "sums")), 5),
    (2, (("halves",), ("halves", "twos")), 5),
    (2, (("halves", "delta"), ("halves", "sums")), 5),
    (3, (("halves",), ("halves", "twos")), 5),
    (3, (("delta",), ("sums", "sums")), 4),
    (3, (("delta", "delta"), ("sums",)), 4),
    (3, (("drops",), ("flags0", "drops"), ("flags1", "drops")), 5),
)

# All pairs of chains with unlike codes, but only because of what they write at the end.
UNLIKE_ENDS = {
    2: [
        (("double", "drops"), ("flags1", "drops")),
        (("drops",), ("flags1", "drops")),
        (("drops", "drops"), ("flags1", "drops")),
        (("drops", "same"), ("flags1", "drops")),
        (("drops", "twos"), ("flags1", "drops")),
        (("flags1", "drops"), ("same", "drops")),
    ],
    3: [],
}


def drawn_chains(chance, k, many):
    return tuple(sorted(chance.sample(family(k), many)))


def drawn_sets(k, many):
    """Many tuples of one, two and three chains; the last ones of them are like each other."""
    chance = random.Random(k)
    sets = [chains for size, chains, _ in HARD if size == k]
    for at in range(many):
        sets.append(drawn_chains(chance, k, at % 3 + 1))
        one = chance.choice(family(k))
        like = [other for other in family(k) if other[0] == one[0] or other[-1] == one[-1]]
        sets.append(tuple(sorted(chance.sample(like, at % 2 + 2))))
    return sets


def written_by(k, chain, row):
    return chain_along(k, chain, list(row))[0]


class Examples(unittest.TestCase):
    def test_the_example_of_8_1(self):
        self.assertEqual(fewest_signs(2, (("delta",), ("same",))), 2)

    def test_the_example_of_8_2(self):
        self.assertEqual(best_sign(2, (("delta",), ("same",)), [], []), 1)

    def test_plans_by_hand(self):
        for k in SIZES:
            chains = (("delta",), ("same",))
            # Behind a 0 nothing is won; behind another sign the two differ at any sign.
            self.assertEqual(best_sign(k, chains, [0], [[0]]), 1)
            self.assertEqual(best_sign(k, chains, [0] * 39, [[0]] * 39), 1)
            self.assertEqual(best_sign(k, chains, [1], [[1]]), 0)
            self.assertIsNone(best_sign(k, chains, [1, 0], [[1], [0]]))
            self.assertIsNone(best_sign(k, chains, [1, 0], [[1], [k - 1]]))
            self.assertEqual(fewest_signs(k, (("double",), ("halves",), ("same",))), 2)
            self.assertEqual(best_sign(k, (("double",), ("halves",), ("same",)), [], []), 0)
            self.assertIsNone(best_sign(k, (("double",), ("halves",), ("same",)), [1], [[1, 1]]))
            self.assertEqual(fewest_signs(k, (("drops",), ("same",))), 2)
            self.assertEqual(fewest_signs(k, (("flags0",), ("flags1",))), 2)

    def test_chains_that_need_many_signs(self):
        for k, chains, fewest in HARD:
            self.assertEqual(fewest_signs(k, chains), fewest, (k, chains))

    def test_one_chain_is_found_at_once(self):
        for k, chain in ALL_CHAINS:
            self.assertEqual(fewest_signs(k, (chain,)), 0)
            self.assertIsNone(best_sign(k, (chain,), [], []))
            row = [0, 0, 1, 1, k - 1, 0]
            self.assertIsNone(best_sign(k, (chain,), row, written_along(k, chain, row)))


class ChainsThatWriteTheSame(unittest.TestCase):
    def test_chains_with_equal_codes(self):
        for k, chain in ALL_CHAINS:
            same = same_as(k, chain)
            for chains in [*combinations(sorted(same), 2), *list(combinations(sorted(same), 3))[:5]]:
                self.assertEqual(fewest_signs(k, chains), 0, (k, chains))
                self.assertIsNone(best_sign(k, chains, [], []))
                self.assertIsNone(best_sign(k, chains, [1, 1, 0], written_along(k, chain, [1, 1, 0])))

    def test_chains_with_unlike_codes_because_of_their_ends(self):
        for one, other in UNLIKE_ENDS[2]:
            self.assertEqual(parting_row(2, one, other), [1])
            self.assertIsNone(parting_tail(2, one, other, ()))
            self.assertEqual(fewest_signs(2, (one, other)), 0, (one, other))
            self.assertIsNone(best_sign(2, (one, other), [], []))
            for row in product(range(2), repeat=9):
                self.assertEqual(written_by(2, one, row), written_by(2, other, row))
            self.assertIsNone(best_sign(2, (one, other), [1, 0, 1], written_by(2, one, [1, 0, 1])))
        three = (("drops",), ("flags1", "drops"), ("same", "drops"))
        self.assertEqual(fewest_signs(2, three), 0)
        self.assertIsNone(best_sign(2, three, [], []))

    def test_those_and_no_others_need_no_sign(self):
        for k in SIZES:
            unlike = []
            for one, other in combinations(sorted(family(k)), 2):
                if fewest_signs(k, (one, other)) == 0 and parting_row(k, one, other) is not None:
                    unlike.append((one, other))
            self.assertEqual(unlike, UNLIKE_ENDS[k])

    def test_the_search_of_the_tests_tells_who_writes_the_same(self):
        """What the search takes for the same is written the same at all of the next signs."""
        for k, many in ((2, 6), (3, 4)):
            chance = random.Random(k)
            for _ in range(150):
                one, other = drawn_chains(chance, k, 2)
                row = tuple(random_row(chance, k, chance.randrange(12)))
                tail = parting_tail(k, one, other, row)
                if tail is not None:
                    self.assertNotEqual(written_at(k, one, row + tail), written_at(k, other, row + tail))
                    many_before = len(tail) - 1
                else:
                    many_before = many
                for signs in product(range(k), repeat=min(many, many_before)):
                    longer = row + signs
                    at = len(row)
                    self.assertEqual(written_by(k, one, longer)[at:], written_by(k, other, longer)[at:])


class PlansByHand(unittest.TestCase):
    """Plans over kinds of states that are made by hand: for each sign the kind behind it and what is written."""

    def test_kinds_that_come_to_write_the_same(self):
        # Behind the sign 1 both kinds are the third one: what is to be found is found, though they wrote the same.
        moves = {
            0: [(0, (0,)), (2, (1,)), (0, (0,))],
            1: [(1, (0,)), (2, (1,)), (1, (1,))],
            2: [(2, (0,)), (2, (0,)), (2, (0,))],
        }
        self.assertEqual(best_plan(moves, (0, 1)), (1, 1))
        self.assertEqual(best_plan(moves, (2,)), (0, None))

    def test_long_plans(self):
        # Only "0" again and again leads on to where a 1 parts the two; before that, a 1 leads back.
        for many in range(1, 12):
            moves = {}
            for at in range(many):
                for side in range(2):
                    told = (side,) if at == many - 1 else ()
                    moves[2 * at + side] = [(2 * min(at + 1, many - 1) + side, ()), (side, told)]
            self.assertEqual(best_plan(moves, (0, 1)), (many, int(many == 1)))


class AgainstTheSearch(unittest.TestCase):
    def assert_as_searched(self, k, chains):
        told = fewest_signs(k, chains), best_sign(k, chains, [], [])
        self.assertEqual(told, plain_best(k, chains, ()), (k, chains))

    def test_all_pairs(self):
        for k in SIZES:
            for chains in combinations(sorted(family(k)), 2):
                self.assert_as_searched(k, chains)

    def test_drawn_triples(self):
        for k in SIZES:
            chance = random.Random(k)
            for _ in range(1500):
                self.assert_as_searched(k, drawn_chains(chance, k, 3))

    def test_sets_of_chains_that_are_like_each_other(self):
        for k in SIZES:
            for chains in drawn_sets(k, 300):
                self.assert_as_searched(k, chains)

    def test_behind_rows_that_are_not_of_the_plan(self):
        for k in SIZES:
            chance = random.Random(k)
            for chains in drawn_sets(k, 150):
                for length in (1, 2, 3, chance.randrange(4, 39), 39):
                    row = random_row(chance, k, length)
                    written = written_by(k, chance.choice(chains), row)
                    possible = still_possible(k, chains, row, written)
                    _, sign = plain_best(k, possible, tuple(row))
                    self.assertEqual(best_sign(k, chains, row, written), sign, (k, chains, row))
                    self.assertEqual(sign is None, is_found(k, possible, tuple(row)))

    def test_behind_rows_that_tell_nothing(self):
        for k, chains, _ in HARD:
            for row in ([], [0], [0, 0], [1], [1, 0], [0] * 38, [0] * 39, [1] * 39, ([0, 1] * 20)[:39]):
                for chain in chains:
                    written = written_by(k, chain, row)
                    possible = still_possible(k, chains, row, written)
                    _, sign = plain_best(k, possible, tuple(row))
                    self.assertEqual(best_sign(k, chains, row, written), sign, (k, chains, row))

    def test_none_is_told_just_where_the_chain_is_found(self):
        for k, many in ((2, 5), (3, 3)):
            for chains in drawn_sets(k, 12):
                for row in [row for length in range(many) for row in product(range(k), repeat=length)]:
                    for chain in chains:
                        written = written_by(k, chain, row)
                        possible = still_possible(k, chains, row, written)
                        sign = best_sign(k, chains, list(row), written)
                        self.assertEqual(sign is None, is_found(k, possible, row), (k, chains, row))
                        if sign is not None:
                            self.assertIs(sign.__class__, int)
                            self.assertIn(sign, range(k))


class PlansPlayed(unittest.TestCase):
    def play(self, k, chains, hidden):
        """Put the best sign again and again, and return the signs when the chain is found."""
        row, written = [], []
        fewest = fewest_signs(k, chains)
        sign = best_sign(k, chains, row, written)
        while sign is not None:
            row = row + [sign]
            self.assertLessEqual(len(row), fewest, (k, chains, hidden))
            written = written_by(k, hidden, row)
            sign = best_sign(k, chains, row, written)
        possible = still_possible(k, chains, row, written)
        self.assertIn(hidden, possible)
        self.assertTrue(is_found(k, possible, tuple(row)), (k, chains, hidden))
        return row

    def assert_plan_finds_each(self, k, chains):
        longest = max(len(self.play(k, chains, hidden)) for hidden in chains)
        self.assertEqual(longest, fewest_signs(k, chains), (k, chains))

    def test_plans_of_drawn_chains(self):
        for k in SIZES:
            for chains in drawn_sets(k, 300):
                self.assert_plan_finds_each(k, chains)

    def test_plans_of_all_chains(self):
        """Each chain of the family stands among two others, and is hidden."""
        for k in SIZES:
            chains = sorted(family(k))
            for at, one in enumerate(chains):
                told = {one, chains[(at + 1) % len(chains)], chains[(at * 7 + 3) % len(chains)]}
                self.assert_plan_finds_each(k, tuple(sorted(told)))

    def test_further_signs_become_fewer_by_one(self):
        for k, chains, fewest in HARD:
            row = ()
            possible = list(chains)
            for left in range(fewest, 0, -1):
                self.assertEqual(plain_fewest(k, possible, row), left)
                row += (best_sign(k, chains, list(row), written_by(k, possible[0], row)),)
                # What is written is what leaves most to find.
                parts = {}
                for chain in possible:
                    parts.setdefault(repr(written_by(k, chain, row)), []).append(chain)
                possible = max(parts.values(), key=lambda part: plain_fewest(k, part, row))
            self.assertIsNone(best_sign(k, chains, list(row), written_by(k, possible[0], row)))


class NoChains(unittest.TestCase):
    def assert_no_chain(self, k, chains, row, written):
        with self.assertRaises(NoChain, msg=f"{(k, chains, row, written)!r}") as caught:
            best_sign(k, chains, row, written)
        self.assertIs(caught.exception.__class__, NoChain)

    def test_what_none_of_them_writes(self):
        for k in SIZES:
            chains = (("delta",), ("same",))
            for written in ([[1]], [[]], [[0, 0]], [[0, 1]], [[0] * 300]):
                self.assert_no_chain(k, chains, [0], written)
            self.assert_no_chain(k, chains, [1, 1, 0], [[1], [0], [0]])
            self.assert_no_chain(k, chains, [1, 1, 0], [[1], [], [1, 0]])
            self.assert_no_chain(k, (("twos",),), [0, 0], [[0], [0, 0]])
            self.assert_no_chain(k, (("drops",),), [0, 0], [[0], [0]])

    def test_changed_lists(self):
        for k in SIZES:
            chance = random.Random(k)
            for chains in drawn_sets(k, 60):
                row = random_row(chance, k, chance.randrange(1, 40))
                written = deepcopy(written_by(k, chance.choice(chains), row))
                at = chance.randrange(len(row))
                written[at] = [chance.randrange(k) for _ in range(chance.randrange(5))]
                possible = still_possible(k, chains, row, written)
                if not possible:
                    self.assert_no_chain(k, chains, row, written)
                else:
                    self.assertEqual(best_sign(k, chains, row, written), plain_best(k, possible, tuple(row))[1])

    def test_more_or_fewer_lists_than_signs(self):
        for k in SIZES:
            chance = random.Random(k)
            for chains in drawn_sets(k, 30):
                for length in (0, 1, 5, 38, 39):
                    row = random_row(chance, k, length)
                    written = written_by(k, chance.choice(chains), row)
                    for more in ([[]], [[0]], [[0, 1]]):
                        self.assert_no_chain(k, chains, row, written + more)
                    if written:
                        self.assert_no_chain(k, chains, row, written[:-1])
                        self.assert_no_chain(k, chains, row, written[1:])
                        self.assert_no_chain(k, chains, row, [])

    def test_chains_that_write_nothing_at_a_sign(self):
        for k in SIZES:
            self.assert_no_chain(k, (("drops",), ("halves",)), [0], [])
            self.assert_no_chain(k, (("drops",), ("halves",)), [0, 0], [[0]])
            self.assert_no_chain(k, (("drops",), ("halves",)), [0], [[0], []])
            self.assertEqual(best_sign(k, (("drops",), ("halves",)), [0, 0], [[0], []]), 0)


class Calls(unittest.TestCase):
    def test_rows_of_39_signs_and_of_40(self):
        for k, chain in ALL_CHAINS:
            chains = tuple(sorted({chain, ("same",), ("twos", "twos")}))
            row = [0, 1, 1, k - 1] * 10
            written = written_along(k, chain, row)
            possible = still_possible(k, chains, row[:39], written[:39])
            sign = best_sign(k, chains, row[:39], written[:39])
            self.assertEqual(sign, plain_best(k, possible, tuple(row[:39]))[1])
            for signs, lists, error in (
                (row, written, InvalidRow),
                (row, written[:39], InvalidRow),
                (row, written + [[]], InvalidRow),
                (row + [0], written, InvalidRow),
                (row[:39], written, NoChain),
                (row[:39], written[:38], NoChain),
                ([], written, NoChain),
                (row[:39], written + [[]], InvalidWritten),
                ([], [[]] * 41, InvalidWritten),
            ):
                with self.assertRaises(error) as caught:
                    best_sign(k, chains, signs, lists)
                self.assertIs(caught.exception.__class__, error)

    def test_wrong_arguments(self):
        for k in SIZES:
            wrong = [(0, InvalidSize, WRONG_SIZES), (1, InvalidChains, wrong_chain_tuples(k))]
            assert_first_error(self, fewest_signs, [k, (("delta",), ("same",))], wrong)
            wrong += [(2, InvalidRow, wrong_rows(k) + ([0] * 40,)), (3, InvalidWritten, wrong_written(k))]
            assert_first_error(self, best_sign, [k, (("delta",), ("same",)), [1], [[1]]], wrong)
            # The same where no chain writes this: that error is the last one.
            for row, written in (([1], [[0]]), ([], [[]]), ([0] * 39, [])):
                assert_first_error(self, best_sign, [k, (("delta",), ("same",)), row, written], wrong)

    def test_one_to_three_chains_ascending(self):
        for k in SIZES:
            names = sorted(family(k))
            self.assertEqual(names[:2], [("delta",), ("delta", "delta")])
            for at in range(len(names) - 3):
                good = tuple(names[at:at + 3])
                self.assertGreaterEqual(fewest_signs(k, good), 0)
                one, two, three = good
                for chains in (
                    (two, one), (one, one), (one, three, two), (one, two, two), (three, two, one), (),
                    (*good, names[at + 3]),
                ):
                    with self.assertRaises(InvalidChains):
                        fewest_signs(k, chains)
                    with self.assertRaises(InvalidChains):
                        best_sign(k, chains, [], [])

    def test_arguments_stay_and_answers_are_equal(self):
        for k in SIZES:
            chance = random.Random(k)
            for chains in drawn_sets(k, 60):
                row = random_row(chance, k, chance.randrange(40))
                written = written_by(k, chance.choice(chains), row)
                kept = deepcopy((chains, row, written))
                told = best_sign(k, chains, row, written), fewest_signs(k, chains)
                self.assertEqual((chains, row, written), kept)
                self.assertEqual((best_sign(k, chains, row, written), fewest_signs(k, chains)), told)


if __name__ == "__main__":
    unittest.main()
