"""Points 21 and 22, and what points 3 and 32 say of them."""

import copy
import time
import unittest
from fractions import Fraction
from itertools import combinations, product
from math import gcd

from helpers import ONE_MODE, THREE_MODES, TWO_MODES, odd_values, wrong_factors
from joint_reckoning import drawn_lists, follow_joint, follow_joint_loop, joint_by_hand, outcome, weigh_by_hand
from latewise.errors import BadFactor, BadRules, TooManyStates, Unfit
from latewise.factors import bad_loop, factor
from latewise.games import least_factor
from latewise.mixing import are_hard, best_mixture, hard_loops
from latewise.mixtures import Mixture, mixture_factor
from latewise.rules import Rule
from latewise.systems import System
from reckoning import all_loops, count_of_loops_is_small, least_of_loops

RULE = Rule([{"q": (0, 1), "p": (0, 0)}, {"q": (1, 1), "p": (0, 0)}])
OTHER = Rule([{"q": (1, 0), "p": (0, 0)}])
STAYING = Rule([{"q": (0, 0), "p": (0, 0)}])
STAYING_TOO = Rule([{"q": (1, 0), "p": (1, 0)}])
LIKE_RULE = Rule([{"q": (0, 1), "p": (0, 0)}, {"q": (1, 1), "p": (0, 0)}, {"q": (0, 2), "p": (1, 1)}])
UNFIT = Rule([{"q": (0, 0), "p": (0, 0)}, {"q": (0, 0), "p": (3, 0)}])
UNFIT_TOO = Rule([{"q": (2, 0), "p": (0, 0)}])
RULES = [RULE, OTHER]
LOOPS = [(1, ["q", "p"], ["q", "p"]), (2, ["q", "q", "p"], ["q", "q", "p"])]
FREE = System([[0, 0], [0, 0]], {"q": [0, 1], "p": [1, 0]})
SIZES = [(1, 2), (2, 1), (2, 2), (2, 3), (3, 1), (3, 2), (4, 1), (4, 2)]
ALL_SIZES = [(modes, kinds) for modes in range(1, 5) for kinds in range(1, 5)]
FACTORS = [(1, 1), (7, 6), (3, 2), (9, 5), (2, 1), (3, 1), (10 ** 30, 1)]

TWO_HUNDRED = System([[0, 3], [2, 0]], {"a": [1, 0], "b": [3, 3]})
TWO_HUNDRED_RULES = [
    Rule([{"a": (1, 2), "b": (1, 1)}, {"a": (0, 0), "b": (0, 0)}, {"a": (0, 1), "b": (1, 0)}]),
    Rule([{"a": (0, 2), "b": (1, 2)}, {"a": (1, 2), "b": (1, 2)}, {"a": (0, 4), "b": (0, 0)}, {"a": (0, 1), "b": (0, 2)},
          {"a": (0, 0), "b": (1, 2)}]),
    Rule([{"a": (0, 1), "b": (0, 1)}, {"a": (1, 2), "b": (1, 1)}, {"a": (0, 3), "b": (1, 2)}, {"a": (1, 1), "b": (0, 0)}]),
]
ONE_MORE = System([[0, 3, 0], [3, 0, 2], [3, 3, 0]], {"a": [1, 1, 2], "b": [4, 2, 2]})
ONE_MORE_RULES = [
    Rule([{"a": (2, 2), "b": (1, 2)}, {"a": (2, 0), "b": (0, 2)}, {"a": (0, 2), "b": (0, 0)}]),
    Rule([{"a": (2, 3), "b": (1, 3)}, {"a": (1, 1), "b": (2, 2)}, {"a": (0, 2), "b": (1, 3)}, {"a": (1, 2), "b": (1, 1)}]),
    Rule([{"a": (1, 2), "b": (0, 2)}, {"a": (2, 0), "b": (1, 1)}, {"a": (1, 0), "b": (2, 1)}]),
]

# Systems, rules, and the weights and the factor of their best mixture, which is the only one.
THREES = [
    (System([[0, 0], [2, 0]], {"a": [1, 1], "b": [2, None], "c": [2, 2]}),
     [[{"a": (1, 0), "b": (0, 0), "c": (1, 0)}], [{"a": (0, 0), "b": (0, 0), "c": (1, 0)}],
      [{"a": (1, 0), "b": (0, 0), "c": (0, 0)}, {"a": (0, 0), "b": (0, 1), "c": (1, 1)}]], [2, 2, 1], (7, 5)),
    (System([[0, 3], [3, 0]], {"a": [1, 2], "b": [2, 3], "c": [2, 4]}),
     [[{"a": (0, 0), "b": (1, 0), "c": (0, 0)}], [{"a": (1, 0), "b": (0, 0), "c": (0, 0)}],
      [{"a": (1, 0), "b": (1, 0), "c": (0, 0)}]], [5, 2, 7], (5, 2)),
    (System([[0, 0], [2, 0]], {"a": [4, None], "b": [3, 2]}),
     [[{"a": (0, 0), "b": (1, 0)}, {"a": (0, 2), "b": (0, 0)}, {"a": (0, 2), "b": (0, 0)}],
      [{"a": (0, 0), "b": (0, 1)}, {"a": (0, 0), "b": (1, 1)}], [{"a": (0, 0), "b": (0, 0)}]], [7, 10, 2], (20, 19)),
]


def mixtures_by_hand(rules, weights=(1, 2, 3, 5)):
    """All mixtures of a list with such weights."""
    found = []
    for many in range(1, len(rules) + 1):
        for some in combinations(rules, many):
            found += [Mixture(list(zip(told, some))) for told in product(weights, repeat=many) if gcd(*told) == 1]
    return found


def are_hard_by_hand(system, rules, loops, some_factor):
    """As point 22 tells it, for a list of tuples of a count and two rows."""
    paid = [0] * len(rules)
    grown = 0
    for count, lead, loop in loops:
        ahead, behind = follow_joint(system, rules, lead)[0], follow_joint(system, rules, lead + loop)[0]
        if not loop or ahead != behind:
            return False
        costs, growth = follow_joint_loop(system, rules, lead, loop)
        paid = [before + count * cost for before, cost in zip(paid, costs)]
        grown += count * growth
    if some_factor is None:
        return grown == 0 and min(paid) > 0
    return grown > 0 and all(some_factor[1] * cost >= some_factor[0] * grown for cost in paid)


class BestMixtures(unittest.TestCase):
    def test_beside_all_mixtures_with_small_weights(self):
        seen = {}
        for system, rules, _ in drawn_lists(91, 12, SIZES, 40):
            told = best_mixture(system, rules)
            least = None if told is None else mixture_factor(system, told)
            others = [mixture_factor(system, mixture) for mixture in mixtures_by_hand(rules)]
            others = [Fraction(*one) for one in others if one is not None]
            if told is None:
                self.assertEqual(others, [])
            else:
                self.assertLessEqual(Fraction(*least), min(others))
            seen[len(rules), None if told is None else len(told.parts())] = True
        for key in ((1, 1), (1, None), (2, 1), (2, 2), (2, None), (3, 1), (3, 2)):
            self.assertIn(key, seen)

    def test_there_is_one_if_some_rule_has_a_factor(self):
        for system, rules, _ in drawn_lists(93, 4, ALL_SIZES, 40):
            factors = [factor(system, rule) for rule in rules]
            told = best_mixture(system, rules)
            self.assertEqual(told is None, factors == [None] * len(rules))
            if told is not None:
                self.assertIs(type(told), Mixture)
                self.assertEqual(gcd(*[weight for weight, _ in told.parts()]), 1)
                places = [rules.index(rule) for _, rule in told.parts()]
                self.assertEqual(places, sorted(places))
                least = Fraction(*mixture_factor(system, told))
                self.assertLessEqual(least, min(Fraction(*one) for one in factors if one is not None))
                self.assertNotIn(None, [factor(system, rule) for _, rule in told.parts()])
                if len(rules) == 1:
                    self.assertEqual(told, Mixture([(1, rules[0])]))

    def test_with_one_rule_more_it_is_never_dearer(self):
        seen = {}
        for system, rules, _ in drawn_lists(94, 4, ALL_SIZES, 40):
            told = [best_mixture(system, rules[:many]) for many in range(1, len(rules) + 1)]
            factors = [None if one is None else Fraction(*mixture_factor(system, one)) for one in told]
            for ahead, behind in zip(factors, factors[1:]):
                self.assertTrue(ahead is None or behind <= ahead)
                seen[ahead == behind] = True
        self.assertEqual(len(seen), 2)

    def test_the_order_of_the_list_means_nothing_to_the_factor(self):
        for system, rules, _ in drawn_lists(95, 4, SIZES):
            told, turned = best_mixture(system, rules), best_mixture(system, rules[::-1])
            self.assertEqual(told is None, turned is None)
            if told is not None:
                self.assertEqual(mixture_factor(system, told), mixture_factor(system, turned))

    def test_by_hand(self):
        self.assertEqual(best_mixture(TWO_MODES, RULES), Mixture([(3, RULE), (2, OTHER)]))
        self.assertEqual(best_mixture(TWO_MODES, [OTHER, RULE]), Mixture([(2, OTHER), (3, RULE)]))
        self.assertEqual(best_mixture(TWO_MODES, [STAYING, OTHER, RULE]), Mixture([(2, OTHER), (3, RULE)]))
        self.assertEqual(best_mixture(TWO_MODES, [STAYING, STAYING_TOO]), None)
        self.assertEqual(best_mixture(TWO_MODES, [STAYING]), None)
        self.assertEqual(best_mixture(FREE, [Rule([{"q": (0, 0), "p": (1, 0)}])]).parts()[0][0], 1)
        # Two that choose alike without being equal: no mixture of them is better than one of them.
        self.assertEqual(mixture_factor(TWO_MODES, best_mixture(TWO_MODES, [RULE, LIKE_RULE])), (2, 1))
        # It is better than all ways of choosing without chance.
        self.assertEqual([least_factor(TWO_MODES), mixture_factor(TWO_MODES, best_mixture(TWO_MODES, RULES))], [(2, 1), (9, 5)])

    def test_lists_whose_best_mixture_has_three_rules(self):
        for system, states, weights, least in THREES:
            rules = [Rule(one) for one in states]
            told = best_mixture(system, rules)
            self.assertEqual(([weight for weight, _ in told.parts()], mixture_factor(system, told)), (weights, least))
            loops = hard_loops(system, rules)
            self.assertLessEqual(len(loops), 3)
            self.assertTrue(are_hard_by_hand(system, rules, loops, least))
            for mixture in mixtures_by_hand(rules, (1, 2, 3, 4, 5)):
                self.assertLessEqual(Fraction(*least), Fraction(*mixture_factor(system, mixture)))
            for mixture in mixtures_by_hand(rules, weights):
                self.assertEqual(mixture == told, mixture_factor(system, mixture) == least)


class HardLoops(unittest.TestCase):
    def test_of_each_size(self):
        seen = {}
        for system, rules, _ in drawn_lists(97, 7, ALL_SIZES, 40):
            mixture = best_mixture(system, rules)
            least = None if mixture is None else mixture_factor(system, mixture)
            loops = hard_loops(system, rules)
            if least == (1, 1):
                self.assertIsNone(loops)
                continue
            self.assertIs(type(loops), list)
            self.assertTrue(1 <= len(loops) <= len(rules))
            for one in loops:
                self.assertEqual([type(one)] + [type(part) for part in one], [tuple, int, list, list])
                self.assertGreater(one[0], 0)
            self.assertTrue(are_hard_by_hand(system, rules, loops, least))
            self.assertIs(are_hard(system, rules, loops, least), True)
            if least is not None:
                # They are hard for no greater factor: some mixture has this one.
                above = Fraction(*least) + Fraction(1, 10 ** 30)
                self.assertIs(are_hard(system, rules, loops, (above.numerator, above.denominator)), False)
                self.assertIs(are_hard(system, rules, loops, None), False)
            lacking = sum(factor(system, rule) is None for rule in rules)
            seen[len(rules), lacking, len(loops)] = True
        for key in ((1, 0, 1), (1, 1, 1), (2, 0, 1), (2, 0, 2), (2, 1, 2), (2, 2, 2), (3, 0, 1), (3, 1, 2), (3, 2, 3), (3, 3, 3)):
            self.assertIn(key, seen)

    def test_a_rule_without_a_factor_that_is_cheap_elsewhere(self):
        # On the loops that are hard for RULE, the rule that stays in the mode 0 is cheap.
        for rules in ([RULE, STAYING], [STAYING, RULE], [OTHER, STAYING, RULE], [STAYING_TOO, RULE, OTHER]):
            mixture = best_mixture(TWO_MODES, rules)
            loops = hard_loops(TWO_MODES, rules)
            least = mixture_factor(TWO_MODES, mixture)
            self.assertLessEqual(len(loops), len(rules))
            self.assertTrue(are_hard_by_hand(TWO_MODES, rules, loops, least))

    def test_one_rule_has_its_bad_loop(self):
        for system, rules, _ in drawn_lists(98, 4, SIZES):
            rows = bad_loop(system, rules[0])
            if rows is not None:
                self.assertIs(are_hard(system, rules[:1], [(7, *rows)], factor(system, rules[0])), True)
            else:
                self.assertIsNone(hard_loops(system, rules[:1]))


class Judged(unittest.TestCase):
    def test_all_loops_of_small_lists(self):
        seen = {}
        lists = list(drawn_lists(99, 2, [(1, 1), (1, 2), (2, 1), (2, 2)], 10))
        lists += [(TWO_MODES, [STAYING, OTHER], None), (FREE, [STAYING_TOO], None)]
        for system, rules, _ in lists:
            rows = [list(row) for many in range(4) for row in product(system.names, repeat=many)]
            loops = [(1 + len(lead), lead, loop) for lead, loop in product(rows[:5] + [["q"] * 5], rows[:8])
                     if system in (TWO_MODES, FREE) or "q" not in lead]
            for one, other in product(loops, loops[::7]):
                for told in ([one], [one, other], [(3, *one[1:]), other, one]):
                    for some_factor in ((1, 1), (3, 2), None):
                        right = are_hard_by_hand(system, rules, told, some_factor)
                        seen[right, some_factor] = True
                        self.assertIs(are_hard(system, rules, told, some_factor), right)
        self.assertEqual(len(seen), 6)

    def test_by_hand(self):
        self.assertIs(are_hard(TWO_MODES, RULES, LOOPS, (9, 5)), True)
        self.assertIs(are_hard(TWO_MODES, RULES, LOOPS, (8, 5)), True)
        self.assertIs(are_hard(TWO_MODES, RULES, LOOPS, (11, 6)), False)
        self.assertIs(are_hard(TWO_MODES, RULES, LOOPS, None), False)
        self.assertIs(are_hard(TWO_MODES, RULES, LOOPS[:1], (9, 5)), False)
        self.assertIs(are_hard(TWO_MODES, RULES, LOOPS[1:], (9, 5)), False)
        self.assertIs(are_hard(TWO_MODES, RULES, LOOPS * 20, (9, 5)), True)
        self.assertIs(are_hard(TWO_MODES, RULES, [(10 ** 5000 * n, lead, loop) for n, lead, loop in LOOPS], (9, 5)), True)
        self.assertIs(are_hard(TWO_MODES, RULES, [(10 ** 5000, lead, loop) for n, lead, loop in LOOPS], (9, 5)), False)
        free = [(1, ["q"] * 5, ["q"])]
        self.assertIs(are_hard(TWO_MODES, [STAYING], free, None), True)
        self.assertIs(are_hard(TWO_MODES, [STAYING], free, (1, 1)), False)
        self.assertIs(are_hard(TWO_MODES, [STAYING, STAYING_TOO], free, None), False)
        other = [(4, ["q", "p", "p", "p"], ["p"])]
        self.assertIs(are_hard(TWO_MODES, [STAYING_TOO], other, None), True)
        self.assertIs(are_hard(TWO_MODES, [STAYING, STAYING_TOO], other + free, None), True)
        self.assertIs(are_hard(TWO_MODES, [STAYING, STAYING_TOO], other + free, (1, 1)), False)
        self.assertIs(are_hard(TWO_MODES, [STAYING], free + [(1, ["q", "p"], ["q", "p"])], None), False)

    def test_values_that_are_no_hard_loops(self):
        lead, loop = ["q", "p"], ["q", "p"]
        last = LOOPS[1]
        wrong = [
            [], tuple(LOOPS), [LOOPS], {1: LOOPS}, [[1, lead, loop], last], [(1, lead), last], [(1, lead, loop, 0), last],
            [(0, lead, loop), last], [(-1, lead, loop), last], [(True, lead, loop), last], [(None, lead, loop), last],
            [("1", lead, loop), last], [(1, tuple(lead), loop), last], [(1, lead, tuple(loop)), last],
            [(1, "qp", loop), last], [(1, lead, "qp"), last], [(1, ["q", "z"], loop), last], [(1, lead, ["q", "z"]), last],
            [(1, lead, []), last], [(1, [], []), last], [(1, ["q", 0], loop), last], [(1, ["q", ["p"]], loop), last],
            [(1, lead, ["q"]), last], [(1, [], loop), (2, [], ["q", "q", "p"])], [(1, lead, loop), None], [None, last],
            [(1, lead, {"q": "p"}), last], [(1, {"q": "p"}, loop), last], [((1, lead, loop), last)], [last, last, ()],
        ]
        for value in odd_values():
            wrong += [value, [value, last], [*LOOPS, value], [(1, value, loop), last]]
            if value != []:
                wrong.append([(1, lead, value), last])
            if type(value) is not int or value < 1:
                wrong.append([(value, lead, loop), last])
        for value in wrong:
            self.assertIs(are_hard(TWO_MODES, RULES, value, (9, 5)), False, value)
            self.assertIs(are_hard(TWO_MODES, RULES, value, None), False, value)

    def test_an_empty_lead(self):
        # The beginning comes again in a system of one mode.
        rules = [Rule([{"a": (0, 0)}])]
        self.assertIs(are_hard(ONE_MODE, rules, [(1, [], ["a"])], (1, 1)), True)
        self.assertIs(are_hard(ONE_MODE, rules, [(1, [], ["a"])], (2, 1)), False)
        self.assertIs(are_hard(ONE_MODE, rules, [(1, [], [])], (1, 1)), False)
        self.assertIs(hard_loops(ONE_MODE, rules), None)

    def test_rows_of_many_thousand_requests(self):
        many = 20000
        begun = time.monotonic()
        loops = [(1, ["q", "p"] * many, ["q", "p"] * many), (2, ["q", "q", "p"] * many, ["q", "q", "p"] * many)]
        self.assertIs(are_hard(TWO_MODES, RULES, loops, (9, 5)), True)
        self.assertLess(time.monotonic() - begun, 20)


class Errors(unittest.TestCase):
    def calls(self, system, rules, value=(2, 1)):
        return [
            lambda: best_mixture(system, rules), lambda: hard_loops(system, rules),
            lambda: are_hard(system, rules, LOOPS, value), lambda: are_hard(system, rules, None, value),
            lambda: are_hard(system, rules, rules, value),
        ]

    def test_no_rules(self):
        wrong = odd_values() + [
            [RULE, RULE], [RULE, Rule(RULE.states())], [RULE, OTHER, RULE], [RULE, OTHER, STAYING, LIKE_RULE], [None],
            [RULE, None], [RULE, [OTHER]], [RULE, OTHER.states()], [(1, RULE)], (RULE,), (RULE, OTHER), {None: RULE},
            {0: RULE}, RULE, Mixture([(1, RULE)]), [Mixture([(1, RULE)])], Mixture([(1, RULE)]).parts(), "rules", TWO_MODES,
            [RULE, Rule([{"q": (0, 0)}])], [RULE, Rule([{"q": (0, 0), "p": (0, 0), "z": (0, 0)}])], [TWO_MODES],
            [Rule([{"q": (0, 0), "z": (0, 0)}]), RULE], [UNFIT, UNFIT],
        ]
        wrong += [[RULE, value] for value in odd_values()] + [[value] for value in odd_values()]
        for value in wrong:
            for some_factor in ((2, 1), (2, 2), None):
                for system in (TWO_MODES, ONE_MORE):
                    for call in self.calls(system, value, some_factor):
                        self.assertEqual(outcome(call), [BadRules, {}])

    def test_unfit_of_the_first_rule_ahead_of_the_rest(self):
        for rules, place, kind in (
            ([RULE, UNFIT, UNFIT_TOO], 1, "p"), ([UNFIT_TOO, UNFIT], 0, "q"), ([UNFIT], 1, "p"), ([OTHER, RULE, UNFIT], 1, "p"),
        ):
            for value in ((2, 1), (2, 2), None):
                for call in self.calls(TWO_MODES, rules, value):
                    self.assertEqual(outcome(call), [Unfit, {"place": place, "kind": kind}])
        rules = [*ONE_MORE_RULES[:2], Rule([{"a": (0, 0), "b": (3, 0)}])]
        for call in self.calls(ONE_MORE, rules, (2, 2)):
            self.assertEqual(outcome(call), [Unfit, {"place": 0, "kind": "b"}])
        for call in self.calls(THREE_MODES, RULES, (2, 2)):
            self.assertEqual(outcome(call), [Unfit, {"place": 0, "kind": "x"}])

    def test_joint_spots_of_all_rules_are_counted(self):
        self.assertEqual(len(joint_by_hand(ONE_MORE, ONE_MORE_RULES)), 201)
        for value in ((2, 1), (2, 2), None):
            for call in self.calls(ONE_MORE, ONE_MORE_RULES, value):
                self.assertEqual(outcome(call), [TooManyStates, {}])
        for many in (1, 2):
            self.assertNotEqual(outcome(lambda: best_mixture(ONE_MORE, ONE_MORE_RULES[:many])), [TooManyStates, {}])

    def test_two_hundred_and_how_long_they_take(self):
        joint = joint_by_hand(TWO_HUNDRED, TWO_HUNDRED_RULES)
        self.assertEqual(len(joint), 200)
        begun = time.monotonic()
        mixture = best_mixture(TWO_HUNDRED, TWO_HUNDRED_RULES)
        loops = hard_loops(TWO_HUNDRED, TWO_HUNDRED_RULES)
        least = mixture and mixture_factor(TWO_HUNDRED, mixture)
        self.assertIs(are_hard(TWO_HUNDRED, TWO_HUNDRED_RULES, loops, least), True)
        self.assertLess(time.monotonic() - begun, 20)
        self.assertTrue(are_hard_by_hand(TWO_HUNDRED, TWO_HUNDRED_RULES, loops, least))

    def test_no_factor(self):
        for value in wrong_factors():
            for loops in (LOOPS, None, [], value, [value]):
                told = outcome(lambda: are_hard(TWO_MODES, RULES, loops, value))
                self.assertEqual(told, False if value is None else [BadFactor, {}])


class Passed(unittest.TestCase):
    def test_by_name(self):
        self.assertEqual(best_mixture(rules=RULES, system=TWO_MODES), best_mixture(TWO_MODES, RULES))
        self.assertEqual(hard_loops(rules=RULES, system=TWO_MODES), hard_loops(TWO_MODES, RULES))
        self.assertIs(are_hard(some_factor=(9, 5), loops=LOOPS, rules=RULES, system=TWO_MODES), True)

    def test_arguments_are_not_changed(self):
        for value in odd_values() + [copy.deepcopy(LOOPS)]:
            kept = copy.deepcopy(value)
            for call in (
                lambda: best_mixture(TWO_MODES, value), lambda: hard_loops(TWO_MODES, value),
                lambda: are_hard(TWO_MODES, value, value, value), lambda: are_hard(TWO_MODES, RULES, value, (9, 5)),
            ):
                outcome(call)
            self.assertEqual(value, kept)
        rules = [RULE, OTHER, STAYING]
        best_mixture(TWO_MODES, rules)
        hard_loops(TWO_MODES, rules)
        self.assertEqual(rules, [RULE, OTHER, STAYING])

    def test_results_are_new(self):
        for rules in (RULES, [RULE, OTHER, STAYING], [STAYING, STAYING_TOO]):
            first = hard_loops(TWO_MODES, rules)
            kept = copy.deepcopy(first)
            self.assertEqual(len({id(row) for one in first for row in one[1:]}), 2 * len(first))
            for _, lead, loop in first:
                lead.append("z")
                loop.clear()
            first.clear()
            self.assertEqual(hard_loops(TWO_MODES, rules), kept)

    def test_lists_that_are_changed_between_two_calls(self):
        rules = [RULE, OTHER]
        loops = copy.deepcopy(LOOPS)
        for _ in range(2):
            self.assertEqual(best_mixture(TWO_MODES, rules), Mixture([(3, RULE), (2, OTHER)]))
            self.assertIs(are_hard(TWO_MODES, rules, loops, (9, 5)), True)
            rules[1] = STAYING
            loops[0][2].append("q")
            self.assertEqual(best_mixture(TWO_MODES, rules), Mixture([(1, RULE)]))
            self.assertIs(are_hard(TWO_MODES, RULES, loops, (9, 5)), False)
            rules[1] = OTHER
            loops[0][2].pop()

    def test_states_and_keys_that_mean_nothing(self):
        wide = [Rule([{**state, "z": (3, 0)} for state in rule.states()] + [{"q": (0, 0), "p": (0, 0), "z": (2, 1)}])
                for rule in (RULE, Rule(OTHER.states() * 2))]
        self.assertEqual(best_mixture(TWO_MODES, wide), Mixture([(3, wide[0]), (2, wide[1])]))
        self.assertEqual(hard_loops(TWO_MODES, wide), hard_loops(TWO_MODES, RULES))

    def test_costs_multiplied(self):
        twice = System([[0, 2], [4, 0]], {"q": [2, 0], "p": [0, 4]})
        self.assertEqual(best_mixture(twice, RULES), best_mixture(TWO_MODES, RULES))
        self.assertIs(are_hard(twice, RULES, LOOPS, (9, 5)), True)

    def test_the_best_of_all_loops(self):
        for system, rules, joint in drawn_lists(100, 3, SIZES, 30):
            told = best_mixture(system, rules)
            if told is not None:
                weights = [dict((rules.index(rule), weight) for weight, rule in told.parts()).get(at, 0) for at in range(len(rules))]
                steps = weigh_by_hand(joint, weights)
                if count_of_loops_is_small(steps):
                    self.assertEqual(mixture_factor(system, told), least_of_loops(all_loops(steps)))


if __name__ == "__main__":
    unittest.main()
