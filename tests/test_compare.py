"""Point 11, what point 3 says of it, and what point 18 says of leads."""

import unittest
from fractions import Fraction
from random import Random

from helpers import FOUR_MODES, ONE_MODE, TWO_MODES, all_rows, long_row
from latewise.compare import lead, parting_row
from latewise.errors import TooManyStates, Unfit
from latewise.factors import factor
from latewise.rules import Rule, cost
from latewise.systems import System
from reckoning import dearest_from_all, drawn_pairs, drawn_rule, follow, pairs_by_hand

RULE = Rule([{"q": (0, 1), "p": (0, 0)}, {"q": (1, 1), "p": (0, 0)}])
OTHER = Rule([{"q": (1, 0), "p": (0, 0)}])
# As RULE, but for doubled states, one that is never reached, and a key that the system does not have.
DOUBLED = Rule([
    {"q": (0, 1), "p": (0, 2), "z": (3, 1)},
    {"q": (1, 3), "p": (0, 2), "z": (2, 2)},
    {"q": (0, 3), "p": (0, 0), "z": (3, 3)},
    {"q": (1, 1), "p": (0, 0), "z": (0, 4)},
    {"q": (1, 4), "p": (1, 4), "z": (0, 0)},
])


def drawn_trios(seed, many, sizes=None, most=8):
    """Drawn systems with two rules each."""
    draw = Random(seed)
    for system, rule in drawn_pairs(seed, many, sizes, most):
        other = drawn_rule(draw, system, draw.randint(1, most))
        yield system, rule, other
        # Rules that differ in one place often cost the same for long.
        states = rule.states()
        state, kind = draw.choice(states), draw.choice(system.names)
        state[kind] = (state[kind][0], draw.randrange(len(states)))
        yield system, rule, Rule(states)


def slow_parting_length(system, first, second):
    """The number of requests of a parting row, or None, by going on from all pairs that are reached, row by row."""
    steps = pairs_by_hand(system, first, second)
    reached = {(0, 0, 0, 0)}
    for length in range(1, len(steps) + 2):
        if any(step[2] != 0 for pair in reached for step in steps[pair]):
            return length
        reached = {step[1] for pair in reached for step in steps[pair]}
    return None


class PartingRows(unittest.TestCase):
    def assert_parts(self, system, first, second, row):
        self.assertIs(type(row), list)
        self.assertNotEqual(follow(system, first, row)[1], follow(system, second, row)[1])

    def test_all_rows_up_to_a_length(self):
        found = {}
        for system, first, second in drawn_trios(6, 12, sizes=[(1, 2), (2, 2), (3, 2), (4, 2), (2, 3)], most=3):
            told = parting_row(system, first, second)
            parting = [row for row in all_rows(system, 5) if cost(system, first, row) != cost(system, second, row)]
            if parting:
                self.assertEqual(len(told), len(parting[0]))
                self.assert_parts(system, first, second, told)
                found[len(told)] = True
            else:
                self.assertTrue(told is None or len(told) > 5)
        self.assertGreater(len(found), 2)

    def test_of_each_size(self):
        same = 0
        for system, first, second in drawn_trios(7, 6):
            told = parting_row(system, first, second)
            length = slow_parting_length(system, first, second)
            if length is None:
                same += 1
                self.assertIsNone(told)
            else:
                self.assertEqual(len(told), length)
                self.assert_parts(system, first, second, told)
        self.assertGreater(same, 3)

    def test_the_same_cost(self):
        for other in (RULE, Rule(RULE.states()), DOUBLED):
            self.assertIsNone(parting_row(TWO_MODES, RULE, other))
            self.assertIsNone(parting_row(TWO_MODES, other, RULE))
        self.assertIsNone(parting_row(ONE_MODE, Rule([{"a": (0, 0)}]), Rule([{"a": (0, 1), "z": (0, 0)}] * 2)))

    def test_other_modes_may_cost_the_same(self):
        system = System([[0, 0], [0, 0]], {"a": [2, 2]})
        self.assertIsNone(parting_row(system, Rule([{"a": (0, 0)}]), Rule([{"a": (1, 0)}])))

    def test_costs_of_one_row_may_be_the_same_again(self):
        # The first row is dearer by 1 by one rule, and the second one by 1 by the other.
        system = System([[0, 0], [0, 0]], {"a": [0, 1]})
        first = Rule([{"a": (1, 1)}, {"a": (0, 0)}])
        second = Rule([{"a": (0, 1)}, {"a": (1, 0)}])
        self.assertEqual(parting_row(system, first, second), ["a"])
        self.assertEqual([lead(system, first, second), lead(system, second, first)], [1, 0])

    def test_a_long_parting_row(self):
        system = System([[0, 4], [4, 0]], {"a": [0, 1], "b": [0, 1]})
        ring = [{"a": (0, (k + 1) % 7), "b": (0, 0)} for k in range(7)]
        other = [dict(state) for state in ring]
        other[6]["b"] = (1, 0)
        self.assertEqual(parting_row(system, Rule(ring), Rule(other)), ["a"] * 6 + ["b"])


class Leads(unittest.TestCase):
    def test_of_each_size(self):
        kinds = {}
        for system, first, second in drawn_trios(8, 6):
            numbers = dearest_from_all(pairs_by_hand(system, first, second), lambda step: step[2])
            told = lead(system, first, second)
            kinds[told if told is None else told > 0] = True
            self.assertEqual(told, None if numbers is None else numbers[0, 0, 0, 0])
            if told is not None:
                self.assertIs(type(told), int)
        self.assertEqual(len(kinds), 3)

    def test_all_rows_up_to_a_length(self):
        for system, first, second in drawn_trios(9, 12, sizes=[(2, 1), (2, 2), (3, 2), (4, 2)], most=2):
            longest = {1: 14, 2: 6}[len(system.names)]
            told = lead(system, first, second)
            most = max(cost(system, first, row) - cost(system, second, row) for row in all_rows(system, longest))
            if told is not None:
                self.assertLessEqual(most, told)
                if len(pairs_by_hand(system, first, second)) <= longest:
                    self.assertEqual(most, told)

    def test_by_hand(self):
        self.assertEqual([lead(TWO_MODES, RULE, OTHER), lead(TWO_MODES, OTHER, RULE)], [None, None])
        self.assertEqual([lead(TWO_MODES, RULE, DOUBLED), lead(TWO_MODES, DOUBLED, RULE)], [0, 0])
        system = System([[0, 3], [4, 0]], {"a": [0, 0]})
        moving = Rule([{"a": (1, 0)}])
        staying = Rule([{"a": (0, 0)}])
        self.assertEqual([lead(system, moving, staying), lead(system, staying, moving)], [3, 0])

    def test_no_difference_of_long_rows_is_greater(self):
        for system, first, second in drawn_trios(10, 6):
            told = lead(system, first, second)
            if told is not None:
                for many in (7, 60, 333):
                    row = long_row(system, many)
                    self.assertLessEqual(cost(system, first, row) - cost(system, second, row), told)

    def test_a_lead_of_0_and_the_factors(self):
        seen = 0
        for system, first, second in drawn_trios(11, 12, sizes=[(1, 2), (2, 2), (2, 3), (3, 2)], most=3):
            other = factor(system, second)
            if lead(system, first, second) == 0 and other is not None:
                seen += 1
                self.assertLessEqual(Fraction(*factor(system, first)), Fraction(*other))
        self.assertGreater(seen, 5)


class Errors(unittest.TestCase):
    def refuses(self, first, second, place, kind, system=TWO_MODES):
        for call in (parting_row, lead):
            with self.assertRaises(Unfit) as caught:
                call(system, first, second)
            self.assertEqual((caught.exception.place, caught.exception.kind), (place, kind))

    def test_the_first_rule_then_the_second_one(self):
        one = Rule([{"q": (0, 1), "p": (0, 0)}, {"q": (2, 1), "p": (0, 0)}])
        other = Rule([{"q": (0, 0), "p": (3, 0)}])
        self.refuses(one, RULE, 1, "q")
        self.refuses(RULE, one, 1, "q")
        self.refuses(RULE, other, 0, "p")
        self.refuses(one, other, 1, "q")
        self.refuses(other, one, 0, "p")
        self.refuses(one, one, 1, "q")

    def test_states_that_are_never_reached(self):
        self.refuses(RULE, Rule([{"q": (0, 0), "p": (0, 0)}, {"q": (0, 0), "p": (2, 0)}]), 1, "p")

    def test_a_kind_that_is_lacking(self):
        self.refuses(Rule([{"p": (0, 0), "z": (0, 0)}]), RULE, 0, "q")

    def test_the_greatest_size(self):
        # There is no bound for the states that two rules reach together.
        draw = Random(12)
        for _ in range(4):
            first, second = drawn_rule(draw, FOUR_MODES, 8), drawn_rule(draw, FOUR_MODES, 8)
            try:
                self.assertEqual(len(parting_row(FOUR_MODES, first, second)),
                                 slow_parting_length(FOUR_MODES, first, second))
                lead(FOUR_MODES, first, second)
            except TooManyStates:
                self.fail("too many states")


class Passed(unittest.TestCase):
    def test_by_name(self):
        self.assertEqual(len(parting_row(second=OTHER, first=RULE, system=TWO_MODES)), 2)
        self.assertIsNone(lead(second=OTHER, first=RULE, system=TWO_MODES))

    def test_arguments_are_not_changed_and_rows_are_new(self):
        system, first, second = System(TWO_MODES.switches(), TWO_MODES.kinds()), Rule(RULE.states()), Rule(OTHER.states())
        told = parting_row(system, first, second)
        kept = list(told)
        told.clear()
        self.assertEqual(parting_row(system, first, second), kept)
        lead(system, first, second)
        self.assertEqual([system, first, second], [TWO_MODES, RULE, OTHER])

    def test_one_and_the_same_object_with_several_partners(self):
        for _ in range(3):
            self.assertEqual(len(parting_row(TWO_MODES, RULE, OTHER)), 2)
            self.assertIsNone(parting_row(TWO_MODES, RULE, RULE))
            self.assertEqual(lead(TWO_MODES, RULE, RULE), 0)
            self.assertIsNone(lead(TWO_MODES, OTHER, RULE))


if __name__ == "__main__":
    unittest.main()
