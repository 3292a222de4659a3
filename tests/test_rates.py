"""Points 0.2 a, 0.7 and 2.1: rates and endless rows."""

import unittest
from copy import deepcopy
from fractions import Fraction

from rowcoders.chains import chain_start, chain_step
from rowcoders.coders import family, is_row
from rowcoders.errors import InvalidChain, InvalidSize
from rowcoders.rates import greatest_rate, least_rate, longest_row, shortest_row
from tests.plain import ALL_CHAINS, SIZES, chain_along, rows_up_to
from tests.wrong import WRONG_SIZES, assert_first_error, wrong_chains

# As the words of 0.5 give them: the greatest rate and the least one.
BY_HAND = {
    (2, ("same",)): ((1, 1), (1, 1)),
    (3, ("double",)): ((2, 1), (2, 1)),
    (2, ("halves",)): ((1, 2), (1, 2)),
    (3, ("halves", "halves")): ((1, 4), (1, 4)),
    (2, ("drops",)): ((1, 1), (0, 1)),
    (3, ("drops",)): ((1, 1), (0, 1)),
    (3, ("double", "drops")): ((1, 1), (0, 1)),
    (2, ("delta", "drops")): ((1, 1), (0, 1)),
    (3, ("unfront",)): ((1, 1), (1, 1)),
    (2, ("twos",)): ((3, 2), (1, 1)),
    (3, ("twos",)): ((3, 2), (3, 4)),
    (2, ("flags0",)): ((3, 2), (1, 1)),
    (2, ("flags1",)): ((3, 2), (1, 1)),
    (3, ("flags0",)): ((3, 2), (2, 3)),
    (3, ("flags2",)): ((3, 2), (2, 3)),
    (2, ("double", "twos")): ((3, 1), (2, 1)),
    (3, ("double", "twos")): ((3, 1), (3, 2)),
    (2, ("flags1", "flags0")): ((5, 3), (1, 1)),
    (2, ("double", "double")): ((4, 1), (4, 1)),
    (2, ("drops", "twos")): ((1, 1), (0, 1)),
    (3, ("twos", "twos")): ((2, 1), (9, 16)),
}


def written_each_time(k, chain, row, loop, times):
    """How many signs are written each time while the loop is read behind the row."""
    counts = [len(signs) for signs in chain_along(k, chain, row + loop * times)[0]]
    starts = [len(row) + at * len(loop) for at in range(times)]
    return [sum(counts[start:start + len(loop)]) for start in starts]


def machine_moves(k, chain):
    """All moves (state, target, how many signs are written) of a chain from its start."""
    states = [chain_start(k, chain)]
    moves = []
    for state in states:
        for sign in range(k):
            target, written = chain_step(k, chain, state, sign)
            if target not in states:
                states.append(target)
            moves.append((state, target, len(written)))
    return states, moves


def has_gaining_loop(states, moves):
    """Whether the worths of the moves of some loop add up to more than 0."""
    heights = {state: 0 for state in states}
    for _ in range(len(states) + 1):
        rising = False
        for state, target, worth in moves:
            if heights[state] + worth > heights[target]:
                heights[target] = heights[state] + worth
                rising = True
        if not rising:
            return False
    return True


class Rates(unittest.TestCase):
    def test_the_example_of_2_1(self):
        self.assertEqual(greatest_rate(2, ("twos",)), (3, 2))

    def test_rates_by_hand(self):
        for (k, chain), (greatest, least) in BY_HAND.items():
            with self.subTest(k=k, chain=chain):
                self.assertEqual(greatest_rate(k, chain), greatest)
                self.assertEqual(least_rate(k, chain), least)

    def test_fractions(self):
        for k, chain in ALL_CHAINS:
            for rate in (greatest_rate(k, chain), least_rate(k, chain)):
                self.assertIsInstance(rate, tuple)
                above, below = rate
                self.assertEqual((above.__class__, below.__class__), (int, int))
                self.assertGreater(below, 0)
                self.assertGreaterEqual(above, 0)
                self.assertEqual((Fraction(above, below).numerator, Fraction(above, below).denominator), rate)

    def test_the_rate_0(self):
        for k in SIZES:
            self.assertEqual(least_rate(k, ("drops",)), (0, 1))
            self.assertEqual(least_rate(k, ("drops", "halves")), (0, 1))
            row, loop = shortest_row(k, ("drops",))
            self.assertEqual(len(set(loop)), 1)
            self.assertEqual(row[-1:], loop[:1])

    def test_no_loop_of_any_length_is_better(self):
        for k, chain in ALL_CHAINS:
            states, moves = machine_moves(k, chain)
            above, below = greatest_rate(k, chain)
            charged = [(state, target, below * many - above) for state, target, many in moves]
            self.assertFalse(has_gaining_loop(states, charged), (k, chain))
            above, below = least_rate(k, chain)
            charged = [(state, target, above - below * many) for state, target, many in moves]
            self.assertFalse(has_gaining_loop(states, charged), (k, chain))

    def test_no_short_loop_is_better(self):
        times = 8
        for k, behind, looping in ((2, 3, 4), (3, 2, 3)):
            rows = rows_up_to(k, behind)
            loops = rows_up_to(k, looping)[1:]
            for chain in family(k):
                greatest, least = Fraction(*greatest_rate(k, chain)), Fraction(*least_rate(k, chain))
                for row in rows:
                    for loop in loops:
                        counts = written_each_time(k, chain, row, loop, times)
                        if len(set(counts)) == 1:
                            self.assertLessEqual(counts[0], greatest * len(loop), (k, chain, row, loop))
                            self.assertGreaterEqual(counts[0], least * len(loop), (k, chain, row, loop))


class EndlessRows(unittest.TestCase):
    def test_endless_rows_with_just_these_rates(self):
        for k, chain in ALL_CHAINS:
            for rate_of, row_of in ((greatest_rate, longest_row), (least_rate, shortest_row)):
                with self.subTest(k=k, chain=chain, row_of=row_of.__name__):
                    endless = row_of(k, chain)
                    self.assertIsInstance(endless, tuple)
                    row, loop = endless
                    self.assertTrue(is_row(k, row))
                    self.assertTrue(is_row(k, loop))
                    self.assertNotEqual(loop, [])
                    counts = written_each_time(k, chain, row, loop, 12)
                    self.assertEqual(len(set(counts)), 1)
                    self.assertEqual(Fraction(counts[0], len(loop)), Fraction(*rate_of(k, chain)))


class Calls(unittest.TestCase):
    def test_wrong_arguments(self):
        for function in (greatest_rate, least_rate, longest_row, shortest_row):
            for k in SIZES:
                wrong = [(0, InvalidSize, WRONG_SIZES), (1, InvalidChain, wrong_chains(k))]
                assert_first_error(self, function, [k, ("drops",)], wrong)

    def test_each_answer_is_new(self):
        for k, chain in ALL_CHAINS:
            for function in (longest_row, shortest_row):
                first = function(k, chain)
                kept = deepcopy(first)
                first[0].append(9)
                first[1].append(9)
                self.assertEqual(function(k, chain), kept)


if __name__ == "__main__":
    unittest.main()
