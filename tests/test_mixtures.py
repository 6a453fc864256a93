"""Points 19 and 20, and what points 3, 8 and 32 say of them."""

import copy
import time
import unittest
from fractions import Fraction

from helpers import FOUR_MODES, ONE_MODE, THREE_MODES, TWO_MODES, all_rows, long_row, odd_values, wrong_factors
from joint_reckoning import (
    drawn_mixtures, follow_joint, follow_joint_loop, joint_by_hand, outcome, weigh_by_hand,
)
from latewise.errors import BadFactor, BadMixture, BadRow, TooManyStates, Unfit
from latewise.factors import are_bounds, bounds, factor
from latewise.hindsight import best
from latewise.mixtures import (
    Mixture, are_mixture_bounds, mixed_cost, mixture_bounds, mixture_factor, mixture_loop,
)
from latewise.rules import Rule, cost
from latewise.systems import System
from reckoning import all_loops, count_of_loops_is_small, has_dear_loop, is_lowest, least_of_loops

RULE = Rule([{"q": (0, 1), "p": (0, 0)}, {"q": (1, 1), "p": (0, 0)}])
OTHER = Rule([{"q": (1, 0), "p": (0, 0)}])
STAYING = Rule([{"q": (0, 0), "p": (0, 0)}])
# It chooses as RULE does: its last state is never reached.
LIKE_RULE = Rule([{"q": (0, 1), "p": (0, 0)}, {"q": (1, 1), "p": (0, 0)}, {"q": (0, 2), "p": (1, 1)}])
UNFIT = Rule([{"q": (0, 0), "p": (0, 0)}, {"q": (0, 0), "p": (3, 0)}])
UNFIT_TOO = Rule([{"q": (2, 0), "p": (0, 0)}])
MIXTURE = Mixture([(3, RULE), (2, OTHER)])
FREE = System([[0, 0], [0, 0]], {"q": [0, 1], "p": [1, 0]})
FREE_MIXTURE = Mixture([(1, Rule([{"q": (0, 0), "p": (1, 0)}])), (5, Rule([{"q": (0, 1), "p": (1, 1)}] * 2))])
FACTORS = [(1, 1), (3, 2), (2, 1), (9, 4), (3, 1), (17, 2), (10 ** 30 + 1, 10 ** 29)]
SIZES = [(1, 2), (2, 1), (2, 2), (2, 3), (3, 1), (3, 2), (4, 1), (4, 2)]
ALL_SIZES = [(modes, kinds) for modes in range(1, 5) for kinds in range(1, 5)]

THOUSAND = System(
    [[0, 0, 4, 0], [0, 0, 1, 4], [1, 2, 0, 1], [2, 4, 0, 0]],
    {"a": [4, 2, 4, 0], "b": [1, 3, 4, 1], "c": [0, 3, 3, 1], "d": [4, 3, 3, 1]},
)
THOUSAND_RULES = [
    Rule([{"a": (1, 1), "b": (2, 0), "c": (1, 3), "d": (2, 1)}, {"a": (2, 3), "b": (2, 1), "c": (1, 0), "d": (3, 0)},
          {"a": (1, 0), "b": (1, 3), "c": (1, 4), "d": (1, 2)}, {"a": (1, 3), "b": (1, 4), "c": (2, 3), "d": (0, 0)},
          {"a": (2, 4), "b": (3, 0), "c": (0, 2), "d": (2, 1)}]),
    Rule([{"a": (3, 1), "b": (3, 2), "c": (0, 1), "d": (3, 0)}, {"a": (2, 0), "b": (2, 2), "c": (0, 3), "d": (0, 2)},
          {"a": (3, 2), "b": (3, 1), "c": (2, 2), "d": (2, 1)}, {"a": (0, 2), "b": (0, 3), "c": (0, 0), "d": (0, 0)}]),
    Rule([{"a": (1, 0), "b": (1, 0), "c": (2, 4), "d": (0, 2)}, {"a": (1, 0), "b": (3, 4), "c": (0, 0), "d": (0, 4)},
          {"a": (0, 2), "b": (1, 4), "c": (0, 2), "d": (1, 0)}, {"a": (2, 2), "b": (3, 1), "c": (2, 1), "d": (3, 3)},
          {"a": (3, 2), "b": (1, 3), "c": (0, 0), "d": (0, 2)}]),
]
ONE_MORE = System(
    [[0, 3, 3], [2, 0, 3], [2, 2, 0]], {"a": [1, 3, 1], "b": [1, 3, 1], "c": [4, 1, 4], "d": [4, 1, 0]},
)
ONE_MORE_RULES = [
    Rule([{"a": (0, 0), "b": (0, 3), "c": (1, 3), "d": (2, 2)}, {"a": (1, 1), "b": (0, 4), "c": (1, 0), "d": (1, 4)},
          {"a": (2, 2), "b": (1, 2), "c": (0, 0), "d": (0, 3)}, {"a": (1, 1), "b": (0, 0), "c": (1, 0), "d": (2, 0)},
          {"a": (1, 2), "b": (2, 2), "c": (1, 1), "d": (2, 0)}]),
    Rule([{"a": (2, 2), "b": (0, 0), "c": (0, 4), "d": (0, 3)}, {"a": (1, 0), "b": (1, 4), "c": (0, 0), "d": (2, 2)},
          {"a": (1, 0), "b": (2, 0), "c": (2, 1), "d": (0, 3)}, {"a": (0, 2), "b": (0, 0), "c": (0, 1), "d": (1, 4)},
          {"a": (0, 1), "b": (0, 4), "c": (0, 1), "d": (1, 4)}]),
]


def worth(some_factor):
    """What a step is worth for a factor."""
    return lambda step: some_factor[1] * step[2] - some_factor[0] * step[3]


class Mixtures(unittest.TestCase):
    def wrong_parts(self):
        """Values that are no parts of a mixture."""
        wrong = [
            [], [(1, RULE), (1, RULE)], [(1, RULE), (2, Rule(RULE.states()))], [(0, RULE)], [(-1, RULE)],
            [(1, RULE), (0, OTHER)], [(1, RULE), (1, OTHER), (1, STAYING), (1, LIKE_RULE)], [(1, RULE), (1, OTHER), (3, RULE)],
            [(1, RULE), (1, Rule([{"q": (0, 0)}]))], [(1, RULE), (1, Rule([{"q": (0, 0), "p": (0, 0), "z": (0, 0)}]))],
            [(1, Rule([{"q": (0, 0), "z": (0, 0)}])), (1, RULE)], [(True, RULE)], [(False, RULE)], [(None, RULE)],
            [("1", RULE)], [((1,), RULE)], [[1, RULE]], [{1: RULE}], [(RULE, 1)], [(1,)], [(1, RULE, 1)], [RULE],
            [(1, RULE.states())], [(1, [RULE])], [(1, (RULE,))], [(1, MIXTURE)], [(1, TWO_MODES)], [(1, None)],
            ((1, RULE), (2, OTHER)), {1: RULE}, {(1, RULE.__class__.__name__): 2}, RULE, MIXTURE, TWO_MODES, 3, "parts",
            [(1, RULE), None], [(1, RULE), (2, OTHER), ()], [[(1, RULE)]], [([1], RULE)], [(10 ** 5000, None)],
        ]
        for value in odd_values():
            wrong += [value, [value], [(1, RULE), value], [(1, value)], [(2, OTHER), (1, value)], (value, RULE)]
            if type(value) is not int or value < 1:
                wrong += [[(value, RULE)], [(1, OTHER), (value, RULE)]]
        return wrong

    def test_wrong_parts(self):
        for value in self.wrong_parts():
            with self.assertRaises(BadMixture):
                Mixture(value)

    def test_parts_are_told_as_they_can_be_handed_in(self):
        huge = 10 ** 5000 + 1
        for parts in ([(1, RULE)], [(3, RULE), (2, OTHER)], [(2, OTHER), (huge, RULE), (1, STAYING)], [(1, RULE), (1, LIKE_RULE)]):
            told = Mixture(parts).parts()
            self.assertEqual(told, parts)
            self.assertEqual([type(told), type(told[0])], [list, tuple])
            self.assertEqual(Mixture(told), Mixture(parts))

    def test_rules_may_fit_no_system_and_have_equal_ways(self):
        self.assertEqual(Mixture([(1, UNFIT), (1, UNFIT_TOO)]).parts()[1][1], UNFIT_TOO)
        self.assertEqual(mixture_factor(TWO_MODES, Mixture([(1, RULE), (6, LIKE_RULE)])), (2, 1))

    def test_copies_are_kept(self):
        parts = [(3, RULE), (2, OTHER)]
        mixture = Mixture(parts)
        parts.append((1, STAYING))
        parts[0] = (9, OTHER)
        self.assertEqual(mixture, MIXTURE)
        mixture.parts().clear()
        mixture.parts()[0] = None
        self.assertEqual(mixture.parts(), [(3, RULE), (2, OTHER)])
        self.assertIsNot(mixture.parts(), mixture.parts())

    def test_equal_ones(self):
        self.assertTrue(MIXTURE == Mixture([(3, Rule(RULE.states())), (2, Rule(OTHER.states()))]))
        self.assertFalse(MIXTURE != Mixture([(3, RULE), (2, OTHER)]))
        others = [
            [(2, OTHER), (3, RULE)], [(6, RULE), (4, OTHER)], [(3, RULE)], [(3, RULE), (2, STAYING)],
            [(2, RULE), (3, OTHER)], [(3, RULE), (2, OTHER), (1, STAYING)], [(3, LIKE_RULE), (2, OTHER)],
        ]
        for parts in others:
            self.assertTrue(MIXTURE != Mixture(parts))
            self.assertFalse(MIXTURE == Mixture(parts))
        for value in odd_values() + [MIXTURE.parts(), RULE, TWO_MODES, "mixture", [MIXTURE]]:
            self.assertFalse(MIXTURE == value)
            self.assertTrue(MIXTURE != value)
            self.assertFalse(value == MIXTURE)


class MixedCosts(unittest.TestCase):
    def test_all_rows_up_to_a_length(self):
        for system, mixture, _ in drawn_mixtures(81, 3, ALL_SIZES):
            rules = [rule for _, rule in mixture.parts()]
            weights = [weight for weight, _ in mixture.parts()]
            for row in all_rows(system, 3) + [long_row(system, 40)]:
                paid = follow_joint(system, rules, row)[1]
                told = mixed_cost(system, mixture, row)
                wanted = Fraction(sum(w * one for w, one in zip(weights, paid)), sum(weights))
                self.assertEqual(told, (wanted.numerator, wanted.denominator))
                self.assertEqual([type(told)] + [type(part) for part in told], [tuple, int, int])

    def test_by_hand(self):
        self.assertEqual(mixed_cost(TWO_MODES, MIXTURE, ["q", "q", "p"]), (18, 5))
        self.assertEqual(mixed_cost(TWO_MODES, MIXTURE, []), (0, 1))
        self.assertEqual(mixed_cost(TWO_MODES, Mixture([(7, OTHER)]), ["q", "q"]), (1, 1))

    def test_no_rows(self):
        for value, index in ((None, 0), ("q", 0), (("q",), 0), ({}, 0), (["q", "z"], 1), (["q", ["q"], 0], 1), ([0], 0)):
            self.assertEqual(outcome(lambda: mixed_cost(TWO_MODES, MIXTURE, value)), [BadRow, {"index": index}])

    def test_many_thousand_requests(self):
        row = long_row(TWO_MODES, 20000)
        begun = time.monotonic()
        told = mixed_cost(TWO_MODES, MIXTURE, row)
        self.assertLess(time.monotonic() - begun, 20)
        self.assertEqual(Fraction(*told), Fraction(3 * cost(TWO_MODES, RULE, row) + 2 * cost(TWO_MODES, OTHER, row), 5))


class MixtureFactors(unittest.TestCase):
    def test_all_loops_tried_out(self):
        seen = {}
        for system, mixture, steps in drawn_mixtures(82, 12, SIZES, 40):
            if count_of_loops_is_small(steps):
                least = least_of_loops(all_loops(steps))
                self.assertEqual(mixture_factor(system, mixture), least)
                seen[None if least is None else least == (1, 1)] = True
        self.assertEqual(len(seen), 3)

    def test_dearest_walks_of_each_size(self):
        for system, mixture, steps in drawn_mixtures(83, 3, ALL_SIZES, 90):
            least = mixture_factor(system, mixture)
            self.assertIs(has_dear_loop(steps, worth(least or (10 ** 9, 1))), least is None)
            if least is not None:
                self.assertTrue(is_lowest(least))
            if least not in (None, (1, 1)):
                below = Fraction(*least) - Fraction(1, 10 ** 40)
                self.assertTrue(has_dear_loop(steps, worth((below.numerator, below.denominator))))

    def test_it_has_one_just_if_all_of_its_rules_have(self):
        for system, mixture, _ in drawn_mixtures(84, 4, ALL_SIZES):
            told = mixture_factor(system, mixture)
            factors = [factor(system, rule) for _, rule in mixture.parts()]
            self.assertEqual(told is None, None in factors)
            if told is not None:
                self.assertLessEqual(Fraction(*told), max(Fraction(*one) for one in factors))
            if len(factors) == 1:
                self.assertEqual(told, factors[0])

    def test_by_hand(self):
        self.assertEqual(mixture_factor(TWO_MODES, MIXTURE), (9, 5))
        self.assertEqual(mixture_factor(TWO_MODES, Mixture([(1, STAYING), (10 ** 30, RULE)])), None)
        self.assertEqual(mixture_factor(FREE, FREE_MIXTURE), (1, 1))
        self.assertEqual(mixture_factor(ONE_MODE, Mixture([(2, Rule([{"a": (0, 0)}]))])), (1, 1))
        weights = [10 ** 21, 10 ** 25 + 7]
        told = mixture_factor(TWO_MODES, Mixture(list(zip(weights, [RULE, OTHER]))))
        self.assertEqual(told, least_of_loops(all_loops(weigh_by_hand(joint_by_hand(TWO_MODES, [RULE, OTHER]), weights))))

    def test_multiplied(self):
        for system, mixture, _ in drawn_mixtures(85, 3, SIZES):
            more = Mixture([(6 * weight, rule) for weight, rule in mixture.parts()])
            turned = Mixture(list(reversed(mixture.parts())))
            told = mixture_factor(system, mixture)
            self.assertEqual([mixture_factor(system, more), mixture_factor(system, turned)], [told, told])


class MixtureLoops(unittest.TestCase):
    def test_of_each_size(self):
        for system, mixture, _ in drawn_mixtures(86, 4, ALL_SIZES):
            least = mixture_factor(system, mixture)
            rows = mixture_loop(system, mixture)
            if least == (1, 1):
                self.assertIsNone(rows)
                continue
            self.assertEqual([type(rows), type(rows[0]), type(rows[1])], [tuple, list, list])
            paid, grown = follow_joint_loop(system, [rule for _, rule in mixture.parts()], *rows)
            weighed = sum(weight * one for (weight, _), one in zip(mixture.parts(), paid))
            whole = sum(weight for weight, _ in mixture.parts())
            if least is None:
                self.assertTrue(grown == 0 and weighed > 0)
            else:
                self.assertTrue(grown > 0 and least[1] * weighed == least[0] * whole * grown)


class MixtureBounds(unittest.TestCase):
    def are_right(self, steps, some_factor, told):
        """As point 20 tells it, for a dict from just the joint spots to integers."""
        return all(
            worth(some_factor)(step) + told[step[1]] <= told[place] for place in steps for step in steps[place]
        )

    def test_of_each_size(self):
        for system, mixture, steps in drawn_mixtures(87, 3, ALL_SIZES):
            least = mixture_factor(system, mixture)
            for some_factor in FACTORS + ([least] if least else []):
                told = mixture_bounds(system, mixture, some_factor)
                if least is None or Fraction(*some_factor) < Fraction(*least):
                    self.assertIsNone(told)
                else:
                    self.assertEqual(set(told), set(steps))
                    self.assertEqual({type(number) for number in told.values()}, {int})
                    self.assertTrue(self.are_right(steps, some_factor, told))
                    self.assertIs(are_mixture_bounds(system, mixture, some_factor, told), True)

    def test_judged_where_numbers_are_moved(self):
        judged = {}
        for system, mixture, steps in drawn_mixtures(88, 2, SIZES, 25):
            some_factor = mixture_factor(system, mixture) or (5, 1)
            told = mixture_bounds(system, mixture, some_factor) or {place: 0 for place in steps}
            for place in steps:
                for by in (-10 ** 25, -3, -1, 1, 2, 10 ** 40):
                    moved = {**told, place: told[place] + by}
                    right = self.are_right(steps, some_factor, moved)
                    judged[right] = True
                    self.assertIs(are_mixture_bounds(system, mixture, some_factor, moved), right)
        self.assertEqual(len(judged), 2)

    def test_the_joint_spots_must_be_just_those(self):
        told = mixture_bounds(TWO_MODES, MIXTURE, (9, 5))
        self.assertIs(are_mixture_bounds(TWO_MODES, MIXTURE, (9, 5), told), True)
        for place in told:
            fewer = {one: told[one] for one in told if one != place}
            self.assertIs(are_mixture_bounds(TWO_MODES, MIXTURE, (9, 5), fewer), False)
            for other in (None, (), "spot", place[:2], (*place, 0), (place[0] + (0,), *place[1:]), (place[1], place[0], place[2] + (0,))):
                self.assertIs(are_mixture_bounds(TWO_MODES, MIXTURE, (9, 5), {**fewer, other: told[place]}), False)
                self.assertIs(are_mixture_bounds(TWO_MODES, MIXTURE, (9, 5), {**told, other: 0}), False)

    def test_keys_are_compared_by_equality(self):
        told = mixture_bounds(TWO_MODES, MIXTURE, (9, 5))
        odd = {
            tuple(tuple(bool(one) if one in (0, 1) else one for one in part) for part in place): number
            for place, number in reversed(list(told.items()))
        }
        self.assertIs(are_mixture_bounds(TWO_MODES, MIXTURE, (9, 5), odd), True)

    def test_values_that_are_no_bounds(self):
        told = mixture_bounds(TWO_MODES, MIXTURE, (9, 5))
        for value in odd_values() + [list(told.items()), list(told), tuple(told), RULE, MIXTURE, "bounds"]:
            self.assertIs(are_mixture_bounds(TWO_MODES, MIXTURE, (9, 5), value), False)
        free = mixture_bounds(FREE, FREE_MIXTURE, (1, 1))
        self.assertIs(are_mixture_bounds(FREE, FREE_MIXTURE, (1, 1), {place: 1 for place in free}), True)
        for value in odd_values() + ["0", (1,), MIXTURE]:
            if type(value) is not int:
                for place in free:
                    self.assertIs(are_mixture_bounds(FREE, FREE_MIXTURE, (1, 1), {**free, place: value}), False)
                self.assertIs(are_mixture_bounds(FREE, FREE_MIXTURE, (1, 1), {place: value for place in free}), False)

    def test_one_rule_has_the_bounds_of_the_rule_weighed(self):
        told = bounds(TWO_MODES, RULE, (2, 1))
        weighed = {((state,), (mode,), owed): 4 * number for (state, mode, owed), number in told.items()}
        self.assertIs(are_mixture_bounds(TWO_MODES, Mixture([(4, RULE)]), (2, 1), weighed), True)
        self.assertIs(are_bounds(TWO_MODES, RULE, (2, 1), weighed), False)


class Errors(unittest.TestCase):
    def calls(self, system, mixture, value):
        return [
            lambda: mixture_bounds(system, mixture, value), lambda: are_mixture_bounds(system, mixture, value, {}),
            lambda: are_mixture_bounds(system, mixture, value, None),
            lambda: are_mixture_bounds(system, mixture, value, [value]),
        ]

    def all_calls(self, system, mixture, value):
        return self.calls(system, mixture, value) + [
            lambda: mixture_factor(system, mixture), lambda: mixture_loop(system, mixture),
        ]

    def test_no_factor(self):
        for value in wrong_factors():
            for mixture in (MIXTURE, Mixture([(1, STAYING)])):
                for call in self.calls(TWO_MODES, mixture, value):
                    with self.assertRaises(BadFactor):
                        call()

    def test_unfit_ahead_of_all_of_the_first_rule(self):
        for rules, wanted in (
            ([RULE, UNFIT, UNFIT_TOO], (1, "p")), ([RULE, UNFIT_TOO, UNFIT], (0, "q")), ([UNFIT], (1, "p")),
            ([OTHER, RULE, UNFIT_TOO], (0, "q")),
        ):
            mixture = Mixture([(1, rule) for rule in rules])
            calls = [call for value in ((2, 1), (2, 2), None) for call in self.all_calls(TWO_MODES, mixture, value)]
            for call in calls + [lambda: mixed_cost(TWO_MODES, mixture, None), lambda: mixed_cost(TWO_MODES, mixture, [])]:
                with self.assertRaises(Unfit) as caught:
                    call()
                self.assertEqual((caught.exception.place, caught.exception.kind), wanted)
        last = Rule([{"a": (0, 0), "b": (0, 0), "c": (0, 0), "d": (3, 0)}])
        for call in self.all_calls(ONE_MORE, Mixture([(1, rule) for rule in ONE_MORE_RULES + [last]]), None):
            self.assertEqual(outcome(call), [Unfit, {"place": 0, "kind": "d"}])

    def test_a_kind_that_the_rules_lack(self):
        system = System(TWO_MODES.switches(), {**TWO_MODES.kinds(), "r": [0, 0]})
        self.assertEqual(outcome(lambda: mixture_factor(system, MIXTURE)), [Unfit, {"place": 0, "kind": "r"}])

    def test_too_many_joint_spots_ahead_of_a_wrong_factor(self):
        self.assertEqual(len(joint_by_hand(ONE_MORE, ONE_MORE_RULES)), 1001)
        for weights in ((1, 1), (10 ** 30, 3)):
            mixture = Mixture(list(zip(weights, ONE_MORE_RULES)))
            for value in ((2, 1), (2, 2), None):
                for call in self.all_calls(ONE_MORE, mixture, value):
                    self.assertEqual(outcome(call), [TooManyStates, {}])
            mixed_cost(ONE_MORE, mixture, ["a", "b"])

    def test_a_thousand_joint_spots_and_how_long_they_take(self):
        joint = joint_by_hand(THOUSAND, THOUSAND_RULES)
        self.assertEqual(len(joint), 1000)
        for weights in ((1, 1, 1), (3 * 10 ** 25 + 1, 7, 10 ** 24 + 9)):
            mixture = Mixture(list(zip(weights, THOUSAND_RULES)))
            begun = time.monotonic()
            least = mixture_factor(THOUSAND, mixture)
            rows = mixture_loop(THOUSAND, mixture)
            told = mixture_bounds(THOUSAND, mixture, least or (100, 1))
            if told is not None:
                self.assertIs(are_mixture_bounds(THOUSAND, mixture, least, told), True)
            self.assertLess(time.monotonic() - begun, 20)
            paid, grown = follow_joint_loop(THOUSAND, THOUSAND_RULES, *rows)
            weighed = sum(weight * one for weight, one in zip(weights, paid))
            if least is None:
                self.assertTrue(grown == 0 and weighed > 0)
            else:
                self.assertEqual(Fraction(weighed, sum(weights) * grown), Fraction(*least))


class Passed(unittest.TestCase):
    def test_by_name(self):
        mixture = Mixture(parts=[(3, RULE), (2, OTHER)])
        self.assertEqual(mixed_cost(row=["q"], mixture=mixture, system=TWO_MODES), (1, 1))
        self.assertEqual(mixture_factor(mixture=mixture, system=TWO_MODES), (9, 5))
        self.assertEqual(mixture_loop(mixture=mixture, system=TWO_MODES), mixture_loop(TWO_MODES, mixture))
        told = mixture_bounds(some_factor=(9, 5), mixture=mixture, system=TWO_MODES)
        self.assertIs(are_mixture_bounds(bounds=told, some_factor=(9, 5), mixture=mixture, system=TWO_MODES), True)

    def test_arguments_are_not_changed(self):
        for value in wrong_factors() + [mixture_bounds(TWO_MODES, MIXTURE, (9, 5))]:
            kept = copy.deepcopy(value)
            are_mixture_bounds(TWO_MODES, MIXTURE, (9, 5), value)
            for call in (lambda: are_mixture_bounds(TWO_MODES, MIXTURE, value, value), lambda: Mixture(value),
                         lambda: mixed_cost(TWO_MODES, MIXTURE, value)):
                outcome(call)
            self.assertEqual(value, kept)
        row = ["q", "p"]
        mixed_cost(TWO_MODES, MIXTURE, row)
        self.assertEqual([row, MIXTURE.parts()], [["q", "p"], [(3, RULE), (2, OTHER)]])

    def test_results_are_new(self):
        for call in (
            lambda: mixture_bounds(TWO_MODES, MIXTURE, (9, 5)),
            lambda: mixture_loop(TWO_MODES, MIXTURE)[0], lambda: mixture_loop(TWO_MODES, MIXTURE)[1],
        ):
            first = call()
            kept = copy.copy(first)
            first.clear()
            self.assertEqual(call(), kept)

    def test_bounds_and_rows_that_are_changed_between_two_calls(self):
        told = mixture_bounds(TWO_MODES, MIXTURE, (9, 5))
        first = (0, 0), (0, 0), (0, None)
        row = ["q"]
        for _ in range(2):
            self.assertIs(are_mixture_bounds(TWO_MODES, MIXTURE, (9, 5), told), True)
            told[first] -= 100
            self.assertIs(are_mixture_bounds(TWO_MODES, MIXTURE, (9, 5), told), False)
            told[first] += 100
            ahead = mixed_cost(TWO_MODES, MIXTURE, row)
            row.append("q")
            self.assertNotEqual(mixed_cost(TWO_MODES, MIXTURE, row), ahead)
            row.append("p")

    def test_one_mixture_with_several_systems_in_turns(self):
        other = System([[0, 0], [0, 0]], TWO_MODES.kinds())
        wanted = [(9, 5), None]
        for _ in range(3):
            self.assertEqual([mixture_factor(system, MIXTURE) for system in (TWO_MODES, other)], wanted)
        self.assertEqual(outcome(lambda: mixture_factor(THREE_MODES, MIXTURE))[0], Unfit)
        self.assertEqual(outcome(lambda: mixture_factor(FOUR_MODES, MIXTURE))[0], Unfit)

    def test_the_cost_of_rows_is_at_most_the_factor_and_a_constant(self):
        for system, mixture, _ in drawn_mixtures(89, 2, SIZES):
            least = mixture_factor(system, mixture)
            if least is not None:
                told = mixture_bounds(system, mixture, least)
                whole = sum(weight for weight, _ in mixture.parts())
                many = len(mixture.parts())
                most = told[(0,) * many, (0,) * many, tuple([0] + [None] * (system.modes - 1))] - min(told.values())
                for length in (5, 50, 200):
                    row = long_row(system, length)
                    paid = Fraction(*mixed_cost(system, mixture, row)) * whole
                    self.assertLessEqual(least[1] * paid - least[0] * whole * best(system, row), most)


if __name__ == "__main__":
    unittest.main()
