"""Points 0.1 to 0.8, over all modules together, and what 0.3 says of every call."""

import random
import unittest
from copy import deepcopy
from itertools import product

from rowcoders.back import count_rows, first_row
from rowcoders.coders import code_of, family, is_chain, is_row, written_along
from rowcoders.desk import Desk
from rowcoders.errors import CoderError, InvalidSize, NoChain
from rowcoders.hidden import best_sign, fewest_signs
from rowcoders.lengths import count_lengths, length_range, row_of_length
from rowcoders.likeness import failing_row, parting_row, same_as
from rowcoders.naive import naive_parting, naive_twins
from rowcoders.rates import greatest_rate, least_rate, longest_row, shortest_row
from rowcoders.reading import could_code, could_write
from rowcoders.texts import format_chain, format_row, parse_chain, parse_row
from rowcoders.twins import twins
from tests.every_call import (
    DESK_CALLS, FUNCTIONS, KINDS, MAY_BE_NONE, good_arguments, is_plain_chain, is_plain_row, wrong_arguments,
)
from tests.plain import ALL_CHAINS, SIZES, all_rows, joined, random_row
from tests.wrong import ANYTHING, assert_first_error, assert_raises_just

ATOMS = (0, 1, 2, 3, -1, 10 ** 20, True, False, None, "", "0", "same", "twos", "flags2", "same|twos", "Same")


def drawn_value(chance, deep):
    """Any combination of integers, booleans, None, strings, lists and tuples, nested at most so deep."""
    if deep == 0 or chance.random() < 0.3:
        return chance.choice(ATOMS)
    parts = [drawn_value(chance, deep - 1) for _ in range(chance.randrange(4))]
    return parts if chance.random() < 0.5 else tuple(parts)


def drawn_near_value(chance, value):
    """A good value with one part changed, left out or put twice, or with another kind of sequence around it."""
    if not isinstance(value, (list, tuple)) or not value or chance.random() < 0.2:
        unwrapped = list(value) if isinstance(value, tuple) else value
        return chance.choice((drawn_value(chance, 2), [value], (value,), unwrapped))
    at = chance.randrange(len(value))
    parts = list(value)
    changed, other = drawn_near_value(chance, parts[at]), drawn_value(chance, 1)
    parts[at:at + 1] = chance.choice(([changed], [], [parts[at]] * 2, [other]))
    return chance.choice((list, tuple, value.__class__, value.__class__))(parts)


def lists_in(value):
    """All lists in a value, the value itself among them."""
    found = [value] if isinstance(value, list) else []
    if isinstance(value, (list, tuple)):
        for part in value:
            found += lists_in(part)
    return found


def spoil(told):
    """Modify all the lists of an answer."""
    for signs in lists_in(told):
        if len(signs) % 2:
            signs.clear()
        else:
            signs.append("spoilt")


class WrongValues(unittest.TestCase):
    def test_wrong_values_of_every_call(self):
        for k in SIZES:
            for function, kinds in FUNCTIONS:
                good = good_arguments(random.Random(7), k, kinds)
                assert_first_error(self, function, good, wrong_arguments(k, kinds))

    def expected_error(self, k, kinds, arguments):
        """The error of the first argument that is not of its kind, or None."""
        for kind, value in zip(kinds, arguments[1:]):
            error, _, is_of_kind = KINDS[kind]
            if not is_of_kind(k, value):
                return error
        return None

    def assert_answers_or_raises(self, k, function, kinds, arguments):
        error = self.expected_error(k, kinds, arguments)
        if error is not None:
            assert_raises_just(self, function, arguments, error)
            return
        try:
            function(*arguments)
        except NoChain:
            self.assertIs(function, best_sign)

    def test_drawn_values_of_every_kind(self):
        for k in SIZES:
            chance = random.Random(k)
            for function, kinds in FUNCTIONS:
                for _ in range(200):
                    arguments = [k] + [drawn_value(chance, chance.randrange(9)) for _ in kinds]
                    self.assert_answers_or_raises(k, function, kinds, arguments)

    def test_values_that_are_nearly_good(self):
        for k in SIZES:
            chance = random.Random(k)
            for function, kinds in FUNCTIONS:
                for _ in range(150 if kinds else 0):
                    arguments = good_arguments(chance, k, kinds)
                    for _ in range(chance.randrange(1, 3)):
                        place = chance.randrange(1, len(arguments))
                        arguments[place] = drawn_near_value(chance, arguments[place])
                    self.assert_answers_or_raises(k, function, kinds, arguments)

    def test_is_row_and_is_chain_of_drawn_values(self):
        for k in SIZES:
            chance = random.Random(k)
            values = [*ANYTHING] + [drawn_value(chance, chance.randrange(9)) for _ in range(3000)]
            for _ in range(3000):
                _, chain, row = good_arguments(chance, k, ("chain", "row"))
                values += [chain, row, drawn_near_value(chance, chain), drawn_near_value(chance, row)]
            for value in values:
                kept = repr(value)
                self.assertIs(is_row(k, value), is_plain_row(k, value), value)
                self.assertIs(is_chain(k, value), is_plain_chain(k, value), value)
                self.assertEqual(repr(value), kept)

    def test_the_size_comes_first(self):
        for size in (True, False, None, 1, 4, "2", "", [2], (3,), [], (), -2, [True], (2, 3)):
            for function, kinds in FUNCTIONS + ((is_row, ("row",)), (is_chain, ("chain",))):
                arguments = [size] + [None] * len(kinds)
                assert_raises_just(self, function, arguments, InvalidSize)

    def test_they_are_all_errors_of_coders(self):
        for error, _, _ in KINDS.values():
            self.assertEqual(error.__bases__, (CoderError,))
        self.assertTrue(issubclass(CoderError, ValueError))


class Answers(unittest.TestCase):
    def drawn_calls(self, many):
        """Calls with good arguments, as functions that take them."""
        for k in SIZES:
            chance = random.Random(k)
            for function, kinds in FUNCTIONS + DESK_CALLS:
                for _ in range(many):
                    yield function, good_arguments(chance, k, kinds)

    def test_equal_answers_and_arguments_that_stay(self):
        for function, arguments in self.drawn_calls(40):
            kept = deepcopy(arguments)
            first = function(*arguments)
            self.assertEqual(arguments, kept, function.__name__)
            second = function(*arguments)
            self.assertEqual(first, second, (function.__name__, kept))
            self.assertEqual(function(*kept), first)
            self.assertEqual(first.__class__, second.__class__)

    def test_every_list_is_new(self):
        told = set()
        for function, arguments in self.drawn_calls(40):
            first, second = function(*arguments), function(*arguments)
            lists = lists_in(first) + lists_in(second)
            if lists:
                told.add(function.__name__)
            places = [id(signs) for signs in lists + lists_in(arguments)]
            self.assertEqual(len(set(places)), len(places), (function.__name__, arguments))
            kept, kept_arguments = deepcopy(first), deepcopy(arguments)
            spoil(first)
            self.assertEqual(second, kept, (function.__name__, arguments))
            self.assertEqual(arguments, kept_arguments)
            spoil(second)
            self.assertEqual(function(*arguments), kept, (function.__name__, arguments))
        for name in (
            "coders", "family", "code_of", "written_along", "longest_row", "shortest_row", "count_lengths",
            "row_of_length", "parting_row", "same_as", "failing_row", "twins", "first_row", "could_code",
            "could_write", "put_on_desk", "row_of_desk", "written_by_desk", "code_of_desk", "parse_row",
            "naive_twins", "naive_parting",
        ):
            self.assertIn(name, told)

    def test_none_only_where_the_section_says_so(self):
        none = set()
        for function, arguments in self.drawn_calls(60):
            if function(*arguments) is None:
                none.add(function)
        self.assertTrue(none <= set(MAY_BE_NONE), none)

    def test_modified_lists_change_no_answer_of_another_call(self):
        for k in SIZES:
            chance = random.Random(k)
            functions = [told for told in FUNCTIONS + DESK_CALLS for _ in range(2)]
            calls = [(function, good_arguments(chance, k, kinds)) for function, kinds in functions]
            kept = [deepcopy(function(*arguments)) for function, arguments in calls]
            for function, arguments in calls:
                spoil(function(*arguments))
            for (function, arguments), told in zip(calls, kept):
                self.assertEqual(function(*arguments), told, function.__name__)


class OneRowInAllModules(unittest.TestCase):
    def test_a_row_and_its_code(self):
        for k, chain in ALL_CHAINS:
            chance = random.Random(repr((k, chain)))
            for many in (0, 3, 12, 40):
                row = random_row(chance, k, many)
                code = code_of(k, chain, row)
                least, greatest = length_range(k, chain, many)
                self.assertTrue(least <= len(code) <= greatest)
                self.assertIn(len(code), dict(count_lengths(k, chain, many)))
                self.assertLessEqual(row_of_length(k, chain, many, len(code)), row)
                first = first_row(k, chain, code)
                self.assertLessEqual((len(first), first), (many, row))
                self.assertGreaterEqual(count_rows(k, chain, code, many), 1)
                desk = Desk(k, parse_chain(k, format_chain(k, chain)))
                for sign in parse_row(k, format_row(k, row)):
                    desk.put(sign)
                self.assertEqual((desk.row(), desk.code()), (row, code))
                self.assertEqual(desk.written(), joined(written_along(k, chain, row)))

    def test_a_row_and_the_chains_that_have_its_code(self):
        for k, chain in ALL_CHAINS[::4]:
            row = random_row(random.Random(repr((k, chain))), k, 15)
            code = code_of(k, chain, row)
            having, writing = could_code(k, row, code), could_write(k, code)
            self.assertIn(chain, having)
            self.assertTrue(set(same_as(k, chain)) <= set(having) <= set(writing))

    def test_chains_that_are_the_same(self):
        for k, chain in ALL_CHAINS:
            for other in same_as(k, chain):
                self.assertIsNone(parting_row(k, chain, other))
                self.assertIsNone(naive_parting(k, chain, other, 3))
                self.assertEqual(fewest_signs(k, tuple(sorted({chain, other}))), 0)
                for function in (greatest_rate, least_rate):
                    self.assertEqual(function(k, chain), function(k, other))
                self.assertEqual(count_lengths(k, chain, 9), count_lengths(k, other, 9))
                self.assertEqual(twins(k, chain) is None, twins(k, other) is None)
                self.assertEqual(naive_twins(k, chain, 3), naive_twins(k, other, 3))


class HoldsForAllChains(unittest.TestCase):
    """Point 0.2, by calls of several modules."""

    def test_a_rates_of_the_told_rows(self):
        for k, chain in ALL_CHAINS:
            for rate_of, row_of in ((greatest_rate, longest_row), (least_rate, shortest_row)):
                above, below = rate_of(k, chain)
                row, loop = row_of(k, chain)
                desk = Desk(k, chain)
                for sign in row:
                    desk.put(sign)
                while len(desk) + len(loop) <= 40:
                    many = len(desk.written())
                    for sign in loop:
                        desk.put(sign)
                    self.assertEqual((len(desk.written()) - many) * below, above * len(loop), (k, chain))

    def test_b_coders_that_undo(self):
        for k in SIZES:
            for one, other in (
                ("delta", "sums"), ("sums", "delta"), ("front", "unfront"), ("unfront", "front"), ("double", "halves"),
            ):
                self.assertIsNone(failing_row(k, (one,), (other,)))
                self.assertIn((one, other), same_as(k, ("same",)))
                self.assertEqual(fewest_signs(k, tuple(sorted([(one, other), ("same",)]))), 0)

    def test_c_chains_that_some_chain_undoes(self):
        for k in SIZES:
            for chain in family(k):
                if any(failing_row(k, chain, other) is None for other in family(k)):
                    self.assertIsNone(twins(k, chain), (k, chain))
                    self.assertIsNone(naive_twins(k, chain, 4), (k, chain))
                    code = code_of(k, chain, [0, 1, 1, 0, 0])
                    self.assertEqual([count_rows(k, chain, code, many) for many in range(9)], [0] * 5 + [1, 0, 0, 0])

    def test_d_numbers_add_up(self):
        for k, chain in ALL_CHAINS:
            for many in range(4):
                counts = dict(count_lengths(k, chain, many))
                self.assertEqual(sum(counts.values()), k ** many)
                codes = {tuple(code_of(k, chain, row)) for row in all_rows(k, many)}
                added = dict.fromkeys(counts, 0)
                for code in codes:
                    added[len(code)] += count_rows(k, chain, list(code), many)
                self.assertEqual(added, counts, (k, chain, many))

    def test_e_a_desk_with_a_hidden_chain_is_found(self):
        for k in SIZES:
            chance = random.Random(k)
            for _ in range(250):
                chains = tuple(sorted(chance.sample(family(k), chance.randrange(1, 4))))
                fewest = fewest_signs(k, chains)
                for hidden in chains:
                    desk, written = Desk(k, hidden), []
                    sign = best_sign(k, chains, desk.row(), written)
                    while sign is not None:
                        written.append(desk.put(sign))
                        sign = best_sign(k, chains, desk.row(), written)
                    self.assertLessEqual(len(desk), fewest)
                    left = [chain for chain in chains if written_along(k, chain, desk.row()) == written]
                    self.assertIn(hidden, left)
                    for signs in product(range(k), repeat=4):
                        tails = [written_along(k, chain, desk.row() + list(signs)) for chain in left]
                        self.assertEqual(tails, tails[:1] * len(tails))


if __name__ == "__main__":
    unittest.main()
