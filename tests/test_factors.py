"""Points 8, 9 and 10, what point 3 says of them, and what point 18 says of the factors of rules."""

import copy
import time
import unittest
from fractions import Fraction

from helpers import FOUR_MODES, ONE_MODE, THREE_MODES, TWO_MODES, all_rows, long_row, odd_values, wrong_factors
from latewise.errors import BadFactor, TooManyStates, Unfit
from latewise.factors import are_bounds, bad_loop, bounds, excess, factor, spots
from latewise.games import least_factor
from latewise.hindsight import best
from latewise.rules import Rule, cost
from latewise.systems import System
from reckoning import (
    all_loops, cost_of_step, count_of_loops_is_small, dearest_from_all, drawn_pairs, follow, follow_loop,
    growth_by_hand, has_dear_loop, is_lowest, least_of_loops, spots_by_hand, start_of,
)

RULE = Rule([{"q": (0, 1), "p": (0, 0)}, {"q": (1, 1), "p": (0, 0)}])
# The last state is never reached, "z" is no kind of the system, and states 1 and 2 do the same.
WIDE_RULE = Rule([
    {"q": (0, 1), "p": (0, 0), "z": (3, 3)},
    {"q": (1, 2), "p": (0, 0), "z": (3, 3)},
    {"q": (1, 1), "p": (0, 0), "z": (2, 3)},
    {"q": (1, 3), "p": (1, 0), "z": (3, 3)},
])
STAYING = Rule([{"q": (0, 0), "p": (0, 0)}])
FREE = System([[0, 0], [0, 0]], {"q": [0, 1], "p": [1, 0]})
FREE_RULE = Rule([{"q": (0, 0), "p": (1, 0)}])
FACTORS = [(1, 1), (3, 2), (2, 1), (9, 4), (3, 1), (17, 2), (64, 1)]
PAIRS = drawn_pairs(4, 12)
# Systems of two modes, or of two kinds, have few spots, so that all loops of their rules can be tried out.
SMALL_PAIRS = drawn_pairs(5, 30, sizes=[(1, 2), (2, 1), (2, 2), (3, 1), (3, 2), (4, 1)], most=3)

MANY_SYSTEM = System(
    [[0, 3, 4, 2], [0, 0, 0, 4], [2, 4, 0, 2], [4, 4, 4, 0]],
    {"a": [4, 1, 2, 2], "b": [1, 4, 1, 0], "c": [1, 4, 2, 4], "d": [4, 4, 3, 2]},
)


def many_rule(step):
    """A rule with 1,001 spots for (1, 0), and with 1,000 spots for (0, 4)."""
    return Rule([
        {"a": (1, 1), "b": (2, 6), "c": (2, 2), "d": (2, 2)},
        {"a": (0, 4), "b": step, "c": (2, 4), "d": (2, 6)},
        {"a": (0, 0), "b": (0, 3), "c": (2, 1), "d": (0, 6)},
        {"a": (2, 6), "b": (0, 4), "c": (2, 2), "d": (0, 4)},
        {"a": (1, 5), "b": (1, 0), "c": (2, 5), "d": (2, 0)},
        {"a": (3, 0), "b": (2, 2), "c": (1, 4), "d": (0, 6)},
        {"a": (1, 6), "b": (0, 4), "c": (1, 6), "d": (0, 4)},
    ])


def worth(some_factor):
    """What a step is worth for a factor."""
    return lambda step: some_factor[1] * step[2] - some_factor[0] * step[3]


def drawn(pairs=None, most=1000):
    """The drawn systems and rules with their spots, where these are not too many."""
    for system, rule in PAIRS if pairs is None else pairs:
        steps = spots_by_hand(system, rule, most)
        if steps is not None:
            yield system, rule, steps


def same_places(first, second):
    return len(first) == len(second) and sorted(first, key=repr) == sorted(second, key=repr)


class Spots(unittest.TestCase):
    def test_of_each_size(self):
        for system, rule, steps in drawn():
            self.assertTrue(same_places(spots(system, rule), steps))

    def test_of_all_rows_up_to_a_length(self):
        for system, rule, steps in drawn(SMALL_PAIRS):
            reached = {follow(system, rule, row)[0] for row in all_rows(system, 5)}
            told = spots(system, rule)
            self.assertTrue(reached <= set(told))
            if len(told) <= 6:
                self.assertEqual(reached, set(told))

    def test_the_beginning_is_one(self):
        for system, rule, _ in drawn():
            self.assertEqual(spots(system, rule).count((0, 0, start_of(system))), 1)
        # No row leads back here.
        self.assertIn((0, 0, (0, None, None)), spots(THREE_MODES, Rule([{"z": (0, 0), "x": (2, 0)}])))

    def test_by_hand(self):
        system = System([[0]], {"a": [3]})
        self.assertEqual(spots(system, Rule([{"a": (0, 0)}])), [(0, 0, (0,))])
        told = spots(system, Rule([{"a": (0, 1)}, {"a": (0, 2)}, {"a": (0, 1)}]))
        self.assertTrue(same_places(told, [(0, 0, (0,)), (1, 0, (0,)), (2, 0, (0,))]))

    def test_kinds_of_values(self):
        told = spots(TWO_MODES, RULE)
        self.assertIs(type(told), list)
        for spot in told:
            self.assertEqual([type(part) for part in spot], [int, int, tuple])
            self.assertIs(type(spot), tuple)

    def test_states_and_keys_that_mean_nothing(self):
        other = Rule([state for state in WIDE_RULE.states()[:3]] + [{"q": (0, 0), "p": (0, 0), "z": (1, 1)}])
        for one in (WIDE_RULE, other):
            self.assertTrue(all(state < 3 for state, _, _ in spots(TWO_MODES, one)))
            self.assertEqual(factor(TWO_MODES, one), (2, 1))
        self.assertTrue(same_places(spots(TWO_MODES, WIDE_RULE), spots(TWO_MODES, other)))


class LeastFactors(unittest.TestCase):
    def test_all_loops_tried_out(self):
        kinds = {}
        for system, rule, steps in drawn(SMALL_PAIRS + PAIRS, 60):
            if count_of_loops_is_small(steps):
                least = least_of_loops(all_loops(steps))
                kinds[None if least is None else least == (1, 1)] = True
                self.assertEqual(factor(system, rule), least)
        self.assertEqual(len(kinds), 3)

    def test_dearest_walks_of_each_size(self):
        for system, rule, steps in drawn(most=90):
            least = factor(system, rule)
            if least is None:
                self.assertTrue(has_dear_loop(steps, worth((10 ** 6, 1))))
            else:
                self.assertTrue(is_lowest(least))
                self.assertFalse(has_dear_loop(steps, worth(least)))
                if least != (1, 1):
                    # Loops have a growth below a thousand, so none has a factor between.
                    below = Fraction(*least) - Fraction(1, 10 ** 6)
                    self.assertTrue(has_dear_loop(steps, worth((below.numerator, below.denominator))))

    def test_by_hand(self):
        self.assertEqual(factor(TWO_MODES, RULE), (2, 1))
        self.assertEqual(factor(TWO_MODES, Rule([{"q": (1, 0), "p": (0, 0)}])), (3, 1))
        self.assertEqual(factor(TWO_MODES, Rule([{"q": (1, 0), "p": (1, 0)}])), None)
        self.assertEqual(factor(ONE_MODE, Rule([{"a": (0, 0)}])), (1, 1))
        self.assertEqual(factor(FREE, FREE_RULE), (1, 1))
        self.assertEqual(factor(TWO_MODES, STAYING), None)

    def test_a_dear_way_that_is_no_loop_means_nothing(self):
        system = System([[0, 4], [4, 0]], {"a": [0, 0]})
        self.assertEqual(factor(system, Rule([{"a": (1, 1)}, {"a": (0, 2)}, {"a": (0, 2)}])), (1, 1))
        self.assertEqual(excess(system, Rule([{"a": (1, 1)}, {"a": (0, 2)}, {"a": (0, 2)}]), (5, 2)), 16)
        self.assertEqual(factor(system, Rule([{"a": (1, 1)}, {"a": (0, 0)}])), None)

    def test_the_cost_of_rows_is_at_most_the_factor_and_a_constant(self):
        for system, rule, _ in drawn():
            least = factor(system, rule)
            if least is not None:
                most = excess(system, rule, least)
                for many in (5, 50, 200):
                    row = long_row(system, many)
                    paid = least[1] * cost(system, rule, row) - least[0] * best(system, row)
                    self.assertLessEqual(paid, most)

    def test_states_that_are_doubled_or_never_reached(self):
        for system, rule, _ in drawn(SMALL_PAIRS):
            states = rule.states()
            many = len(states)
            doubled = [{kind: (mode, following + many * (k % 2)) for k, (kind, (mode, following))
                        in enumerate(state.items())} for state in states * 2]
            self.assertEqual(factor(system, Rule(doubled)), factor(system, rule))
            self.assertEqual(factor(system, Rule(states + states[::-1][:2])), factor(system, rule))

    def test_least_factor_of_the_rule_and_of_its_system(self):
        for system, rule, _ in drawn():
            try:
                least = least_factor(system)
            except TooManyStates:
                continue
            told = factor(system, rule)
            if told is not None:
                self.assertLessEqual(Fraction(*least), Fraction(*told))

    def test_costs_multiplied(self):
        for system, rule, _ in drawn(SMALL_PAIRS):
            switches = [[cost // 2 for cost in costs] for costs in system.switches()]
            kinds = {kind: [None if cost is None else cost // 2 for cost in costs]
                     for kind, costs in system.kinds().items()}
            doubled = {kind: [None if cost is None else 2 * cost for cost in costs] for kind, costs in kinds.items()}
            self.assertEqual(
                factor(System(switches, kinds), rule),
                factor(System([[2 * cost for cost in costs] for costs in switches], doubled), rule),
            )


class BadLoops(unittest.TestCase):
    def test_of_each_size(self):
        for system, rule, _ in drawn(PAIRS + SMALL_PAIRS):
            least = factor(system, rule)
            rows = bad_loop(system, rule)
            if least == (1, 1):
                self.assertIsNone(rows)
                continue
            self.assertEqual([type(rows), type(rows[0]), type(rows[1])], [tuple, list, list])
            paid, grown = follow_loop(system, rule, rows)
            if least is None:
                self.assertTrue(grown == 0 and paid > 0)
            else:
                self.assertTrue(grown > 0 and least[1] * paid == least[0] * grown)

    def test_by_hand(self):
        self.assertIsNone(bad_loop(ONE_MODE, Rule([{"a": (0, 0)}])))
        lead, loop = bad_loop(TWO_MODES, STAYING)
        self.assertEqual((loop, "q" in lead), (["q"] * len(loop), True))


class Bounds(unittest.TestCase):
    def are_bounds_by_hand(self, system, rule, some_factor, told):
        """As point 9 tells it, for a dict from just the spots to integers."""
        top, bottom = some_factor
        states = rule.states()
        for (state, mode, owed), number in told.items():
            for kind in system.kinds():
                chosen, following = states[state][kind]
                grown, behind = growth_by_hand(system, owed, kind)
                paid = cost_of_step(system, mode, kind, chosen)
                if bottom * paid - top * grown + told[following, chosen, behind] > number:
                    return False
        return True

    def test_of_each_size(self):
        for system, rule, steps in drawn():
            least = factor(system, rule)
            for some_factor in FACTORS + ([least] if least else []):
                told = bounds(system, rule, some_factor)
                if least is None or Fraction(*some_factor) < Fraction(*least):
                    self.assertIsNone(told)
                else:
                    self.assertEqual(set(told), set(steps))
                    self.assertEqual({type(number) for number in told.values()}, {int})
                    self.assertTrue(self.are_bounds_by_hand(system, rule, some_factor, told))
                    self.assertIs(are_bounds(system, rule, some_factor, told), True)

    def test_judged_where_numbers_are_moved(self):
        judged = {}
        for system, rule, steps in drawn(SMALL_PAIRS, 40):
            some_factor = factor(system, rule) or (5, 1)
            told = bounds(system, rule, some_factor) or {spot: 0 for spot in steps}
            for spot in steps:
                for by in (-3, -1, 1, 2, 10 ** 30):
                    moved = {**told, spot: told[spot] + by}
                    right = self.are_bounds_by_hand(system, rule, some_factor, moved)
                    judged[right] = True
                    self.assertIs(are_bounds(system, rule, some_factor, moved), right)
        self.assertEqual(len(judged), 2)

    def test_all_raised_and_numbers_below_0(self):
        told = bounds(TWO_MODES, RULE, (2, 1))
        for by in (-7, 5, -10 ** 400):
            self.assertIs(are_bounds(TWO_MODES, RULE, (2, 1), {spot: told[spot] + by for spot in told}), True)

    def test_another_factor(self):
        told = bounds(TWO_MODES, RULE, (2, 1))
        self.assertIs(are_bounds(TWO_MODES, RULE, (3, 2), told), False)
        self.assertIs(are_bounds(TWO_MODES, RULE, (5, 2), {spot: 2 * told[spot] for spot in told}), True)

    def test_the_spots_must_be_just_those(self):
        told = bounds(TWO_MODES, RULE, (2, 1))
        self.assertIs(are_bounds(TWO_MODES, RULE, (2, 1), told), True)
        for spot in told:
            fewer = {one: told[one] for one in told if one != spot}
            self.assertIs(are_bounds(TWO_MODES, RULE, (2, 1), fewer), False)
            for other in (None, (), "spot", (spot[0], spot[1]), (spot[0] + 8, spot[1], spot[2]), (*spot, 0)):
                self.assertIs(are_bounds(TWO_MODES, RULE, (2, 1), {**fewer, other: told[spot]}), False)
                self.assertIs(are_bounds(TWO_MODES, RULE, (2, 1), {**told, other: 0}), False)

    def test_keys_are_compared_by_equality(self):
        system = System([[0]], {"a": [0]})
        rule = Rule([{"a": (0, 1)}, {"a": (0, 1)}])
        self.assertIs(are_bounds(system, rule, (1, 1), {(0, 0, (0,)): 0, (1, 0, (0,)): 0}), True)
        self.assertIs(are_bounds(system, rule, (1, 1), {(True, False, (False,)): 0, (False, 0, (0,)): 0}), True)
        self.assertIs(are_bounds(system, rule, (1, 1), {(1, 0, (None,)): 0, (0, 0, (0,)): 0}), False)

    def test_the_order_of_the_keys_means_nothing(self):
        told = bounds(TWO_MODES, RULE, (2, 1))
        self.assertIs(are_bounds(TWO_MODES, RULE, (2, 1), {spot: told[spot] for spot in reversed(list(told))}), True)

    def test_values_that_are_no_bounds(self):
        told = bounds(TWO_MODES, RULE, (2, 1))
        for value in odd_values() + [list(told.items()), list(told), tuple(told), RULE, "bounds"]:
            self.assertIs(are_bounds(TWO_MODES, RULE, (2, 1), value), False)

    def test_numbers_that_are_none(self):
        told = bounds(FREE, FREE_RULE, (1, 1))
        self.assertIs(are_bounds(FREE, FREE_RULE, (1, 1), {spot: 1 for spot in told}), True)
        for value in odd_values() + ["0", (1,)]:
            if type(value) is not int:
                for spot in told:
                    self.assertIs(are_bounds(FREE, FREE_RULE, (1, 1), {**told, spot: value}), False)
                self.assertIs(are_bounds(FREE, FREE_RULE, (1, 1), {spot: value for spot in told}), False)

    def test_huge_factors(self):
        for some_factor in ((10 ** 3000 + 1, 10 ** 3000), (2 * 10 ** 3000 + 1, 10 ** 3000), (10 ** 3000, 1)):
            told = bounds(TWO_MODES, RULE, some_factor)
            self.assertEqual(told is None, some_factor[0] < 2 * some_factor[1])
            if told is not None:
                self.assertIs(are_bounds(TWO_MODES, RULE, some_factor, told), True)
                self.assertEqual(excess(TWO_MODES, RULE, some_factor), told[0, 0, (0, None)])


class Excesses(unittest.TestCase):
    def test_of_each_size(self):
        for system, rule, steps in drawn():
            least = factor(system, rule)
            for some_factor in FACTORS[::2] + ([least] if least else []):
                told = excess(system, rule, some_factor)
                if least is None or Fraction(*some_factor) < Fraction(*least):
                    self.assertIsNone(told)
                else:
                    self.assertIs(type(told), int)
                    numbers = dearest_from_all(steps, worth(some_factor))
                    self.assertEqual(told, numbers[0, 0, start_of(system)])

    def test_all_rows_up_to_a_length(self):
        for system, rule, steps in drawn(SMALL_PAIRS):
            longest = {1: 12, 2: 7}[len(system.names)]
            least = factor(system, rule)
            if least is None:
                continue
            told = excess(system, rule, least)
            paid = [follow(system, rule, row)[1:] for row in all_rows(system, longest)]
            most = max(least[1] * one - least[0] * grown for one, grown in paid)
            self.assertLessEqual(most, told)
            if len(steps) <= longest:
                self.assertEqual(most, told)

    def test_by_hand(self):
        self.assertEqual([excess(TWO_MODES, RULE, one) for one in ((2, 1), (3, 1), (3, 2))], [0, 0, None])
        system = System([[0, 1], [1, 0]], {"a": [0, 0]})
        going = Rule([{"a": (1, 1)}, {"a": (1, 1)}])
        self.assertEqual([excess(system, going, one) for one in ((1, 1), (7, 3))], [1, 3])


class Errors(unittest.TestCase):
    def calls(self, system, rule, value):
        return [
            lambda: bounds(system, rule, value),
            lambda: are_bounds(system, rule, value, {}),
            lambda: are_bounds(system, rule, value, None),
            lambda: are_bounds(system, rule, value, [value]),
            lambda: excess(system, rule, value),
        ]

    def all_calls(self, system, rule, value):
        return self.calls(system, rule, value) + [
            lambda: spots(system, rule), lambda: factor(system, rule), lambda: bad_loop(system, rule),
        ]

    def test_no_factor(self):
        for value in wrong_factors():
            for call in self.calls(TWO_MODES, RULE, value) + self.calls(TWO_MODES, STAYING, value):
                with self.assertRaises(BadFactor):
                    call()

    def test_unfit_ahead_of_all(self):
        # The state 2 of this rule is never reached.
        unfit = Rule([{"q": (0, 1), "p": (0, 0)}, {"q": (1, 1), "p": (0, 0)}, {"q": (2, 1), "p": (0, 0)}])
        for value in ((2, 1), (2, 2), None):
            for call in self.all_calls(TWO_MODES, unfit, value):
                with self.assertRaises(Unfit) as caught:
                    call()
                self.assertEqual((caught.exception.place, caught.exception.kind), (2, "q"))
        states = many_rule((1, 0)).states()
        for state in states:
            del state["c"]
        for call in self.all_calls(MANY_SYSTEM, Rule(states), None):
            with self.assertRaises(Unfit) as caught:
                call()
            self.assertEqual((caught.exception.place, caught.exception.kind), (0, "c"))

    def test_too_many_spots_ahead_of_a_wrong_factor(self):
        many = many_rule((1, 0))
        self.assertEqual(len(spots_by_hand(MANY_SYSTEM, many)), 1001)
        for value in ((2, 1), (2, 2), None):
            for call in self.all_calls(MANY_SYSTEM, many, value):
                with self.assertRaises(TooManyStates):
                    call()

    def test_a_thousand_spots_and_how_long_they_take(self):
        rule = many_rule((0, 4))
        self.assertEqual(len(spots(MANY_SYSTEM, rule)), 1000)
        begun = time.monotonic()
        least = factor(MANY_SYSTEM, rule)
        paid, grown = follow_loop(MANY_SYSTEM, rule, bad_loop(MANY_SYSTEM, rule))
        self.assertEqual((least, grown), (None, 0))
        for some_factor in ((1, 1), (10 ** 300 + 1, 10 ** 299), (10 ** 3000, 1)):
            self.assertIsNone(bounds(MANY_SYSTEM, rule, some_factor))
            self.assertIsNone(excess(MANY_SYSTEM, rule, some_factor))
        self.assertLess(time.monotonic() - begun, 30)

    def test_four_modes_and_eight_states(self):
        states = [{name: (2 if name == "a" else 3, (k + 1) % 8) for name in FOUR_MODES.names} for k in range(8)]
        rule = Rule(states)
        self.assertEqual(len(spots(FOUR_MODES, rule)), len(spots_by_hand(FOUR_MODES, rule)))


class Passed(unittest.TestCase):
    def test_by_name(self):
        self.assertEqual(spots(rule=RULE, system=TWO_MODES), spots(TWO_MODES, RULE))
        self.assertEqual(factor(rule=RULE, system=TWO_MODES), (2, 1))
        self.assertEqual(bad_loop(rule=RULE, system=TWO_MODES), bad_loop(TWO_MODES, RULE))
        told = bounds(some_factor=(2, 1), rule=RULE, system=TWO_MODES)
        self.assertIs(are_bounds(bounds=told, some_factor=(2, 1), rule=RULE, system=TWO_MODES), True)
        self.assertEqual(excess(some_factor=(2, 1), rule=RULE, system=TWO_MODES), 0)

    def test_arguments_are_not_changed(self):
        system = System(TWO_MODES.switches(), TWO_MODES.kinds())
        rule = Rule(WIDE_RULE.states())
        for value in wrong_factors() + odd_values() + [bounds(system, rule, (2, 1))]:
            kept = copy.deepcopy(value)
            are_bounds(system, rule, (2, 1), value)
            with self.assertRaises(BadFactor):
                are_bounds(system, rule, value, value)
            self.assertEqual(value, kept)
        self.assertEqual([system, rule], [TWO_MODES, WIDE_RULE])

    def test_results_are_new(self):
        for call in (
            lambda: spots(TWO_MODES, RULE), lambda: bounds(TWO_MODES, RULE, (2, 1)),
            lambda: bad_loop(TWO_MODES, RULE)[0], lambda: bad_loop(TWO_MODES, RULE)[1],
        ):
            first = call()
            kept = copy.copy(first)
            first.clear()
            self.assertEqual(call(), kept)

    def test_bounds_that_are_changed_between_two_calls(self):
        told = bounds(TWO_MODES, RULE, (2, 1))
        self.assertIs(are_bounds(TWO_MODES, RULE, (2, 1), told), True)
        told[0, 0, (0, None)] -= 10
        self.assertIs(are_bounds(TWO_MODES, RULE, (2, 1), told), False)
        told[0, 0, (0, None)] += 10
        self.assertIs(are_bounds(TWO_MODES, RULE, (2, 1), told), True)

    def test_one_rule_with_several_systems_in_turns(self):
        other = System([[0, 0], [0, 0]], TWO_MODES.kinds())
        told = [factor(TWO_MODES, RULE), factor(other, RULE), factor(TWO_MODES, STAYING)]
        for _ in range(3):
            self.assertEqual([factor(TWO_MODES, RULE), factor(other, RULE), factor(TWO_MODES, STAYING)], told)
        self.assertEqual(told, [(2, 1), None, None])

    def test_keys_in_another_order(self):
        for system, rule, _ in drawn(SMALL_PAIRS):
            turned = System(system.switches(), dict(reversed(list(system.kinds().items()))))
            again = Rule([dict(reversed(list(state.items()))) for state in rule.states()])
            self.assertEqual(factor(turned, again), factor(system, rule))
            self.assertTrue(same_places(spots(turned, again), spots(system, rule)))


if __name__ == "__main__":
    unittest.main()
