"""Point 7, what point 3 says of rules, and the first sentence of point 18."""

import copy
import unittest
from itertools import permutations
from unittest import mock

from helpers import (
    FOUR_MODES, IDLE_MODE, THREE_MODES, TWO_MODES, all_rows, cost_by_hand, deep_dict, deep_list, deep_tuple, long_row,
    odd_values,
)
from latewise.errors import BadRow, BadRule, Unfit
from latewise.hindsight import best, debts
from latewise.rules import Rule, check, cost, modes_of
from latewise.systems import System

STATES = [{"q": (0, 1), "p": (0, 0)}, {"q": (1, 1), "p": (0, 0)}]
RULE = Rule(STATES)
FOUR_RULE = Rule([
    {"a": (0, 1), "bb": (1, 2), "ccc": (3, 0), "abcdefgh": (3, 1)},
    {"a": (2, 2), "bb": (3, 0), "ccc": (1, 1), "abcdefgh": (1, 0)},
    {"a": (3, 0), "bb": (2, 2), "ccc": (0, 1), "abcdefgh": (1, 2)},
])
IDLE_RULE = Rule([{"a": (0, 1), "b": (2, 0), "c": (0, 1)}, {"a": (0, 0), "b": (2, 0), "c": (2, 1)}])
FITTING = [(TWO_MODES, RULE), (FOUR_MODES, FOUR_RULE), (IDLE_MODE, IDLE_RULE)]


def modes_by_hand(states, row):
    """The modes that a rule chooses, as the document tells it."""
    modes = []
    state = 0
    for kind in row:
        modes.append(states[state][kind][0])
        state = states[state][kind][1]
    return modes


class Made(unittest.TestCase):
    def test_one_to_eight_states(self):
        for many in range(1, 9):
            states = [{"a": (k % 4, (k + 1) % many)} for k in range(many)]
            self.assertEqual(Rule(states).states(), states)

    def test_modes_and_next_states_at_the_edges(self):
        for mode in (0, 1, 2, 3):
            for following in (0, 1, 2):
                states = [{"a": (mode, following)}, {"a": (0, 0)}, {"a": (following, mode % 3)}]
                self.assertEqual(Rule(states).states(), states)

    def test_many_kinds(self):
        for many in (1, 4, 5, 20):
            state = {"abcdefghijklmnopqrstuvwxyz"[k]: (k % 4, 0) for k in range(many)}
            self.assertEqual(Rule([state]).states(), [state])

    def test_names_of_one_to_eight_letters(self):
        for name in ("a", "z", "abcdefgh", "zzzzzzzz"):
            self.assertEqual(Rule([{name: (0, 0)}]).states(), [{name: (0, 0)}])

    def test_argument_by_name(self):
        self.assertEqual(Rule(states=STATES), RULE)

    def test_kinds_of_values_told(self):
        told = RULE.states()
        self.assertIs(type(told), list)
        for state in told:
            self.assertIs(type(state), dict)
            for pair in state.values():
                self.assertIs(type(pair), tuple)
                self.assertEqual([type(part) for part in pair], [int, int])


class Refused(unittest.TestCase):
    def refuses(self, states):
        with self.assertRaises(BadRule) as caught:
            Rule(states)
        self.assertIs(type(caught.exception), BadRule)

    def test_other_values(self):
        for value in odd_values() + [RULE, TWO_MODES, 9, "states"]:
            self.refuses(value)
            self.refuses([value])
            self.refuses([{"a": (0, 0)}, value])
            self.refuses([value, {"a": (0, 0)}])
            self.refuses([{"a": value, "b": (0, 0)}, {"b": (0, 0), "a": (0, 0)}])
            self.refuses([{"a": (value, 0), "b": (0, 0)}])
            self.refuses([{"a": (0, value), "b": (0, 0)}])

    def assert_one_odd_pair_is_enough(self, pair):
        self.refuses([{"a": pair}, {"a": (0, 0)}])
        self.refuses([{"a": (0, 0)}, {"a": pair}])
        self.refuses([{"a": (0, 0), "b": pair}, {"a": (0, 0), "b": (0, 0)}])
        self.refuses([{"b": pair, "a": (0, 0)}, {"a": (0, 0), "b": (0, 0)}])

    def test_no_list(self):
        self.refuses(({"a": (0, 0)},))
        self.refuses({0: {"a": (0, 0)}})
        self.refuses({"a": (0, 0)})

    def test_no_dict(self):
        self.refuses([[("a", (0, 0))]])
        self.refuses([(("a", (0, 0)),)])

    def test_no_state_and_nine_states(self):
        self.refuses([])
        self.refuses([{"a": (0, 0)}] * 9)
        self.assertEqual(len(Rule([{"a": (0, 0)}] * 8).states()), 8)

    def test_empty_dicts(self):
        self.refuses([{}])
        self.refuses([{}, {}])
        self.refuses([{"a": (0, 0)}, {}])
        self.refuses([{}, {"a": (0, 0)}])

    def test_other_keys_than_the_first_one(self):
        self.refuses([{"a": (0, 0)}, {"b": (0, 0)}])
        self.refuses([{"a": (0, 0)}, {"a": (0, 0), "b": (0, 0)}])
        self.refuses([{"a": (0, 0), "b": (0, 0)}, {"a": (0, 0)}])
        self.refuses([{"a": (0, 0), "b": (0, 0)}, {"a": (0, 0), "c": (0, 0)}])
        self.refuses([{"a": (0, 0)}, {"a": (0, 0)}, {"a": (0, 0), "b": (0, 0)}])

    def test_names_that_are_none(self):
        for name in ("", "abcdefghi", "A", "a b", "a1", "\u00e9", "a\n", "{", "`", None, True, 0, 1, (), ("a",), b"a"):
            self.refuses([{name: (0, 0)}])
            self.refuses([{"a": (0, 0), name: (0, 0)}])

    def test_pairs_that_are_lists_or_of_other_lengths(self):
        for pair in ([0, 0], (), (0,), (0, 0, 0), 0, None, "00", {0: 0, 1: 0}, {0: 0}, ((0, 0),)):
            self.assert_one_odd_pair_is_enough(pair)

    def test_modes_beyond_the_edges(self):
        for mode in (4, -1, 5, 10 ** 30, None, "0", 1.0):
            self.assert_one_odd_pair_is_enough((mode, 0))

    def test_next_states_beyond_the_edges(self):
        for following in (2, -1, 8, None, "0", 1.0):
            self.assert_one_odd_pair_is_enough((0, following))
        self.refuses([{"a": (0, 1)}])
        self.refuses([{"a": (0, 8)}] * 8)

    def test_bools(self):
        for odd in (True, False):
            self.assert_one_odd_pair_is_enough((odd, 0))
            self.assert_one_odd_pair_is_enough((0, odd))

    def test_deep_values(self):
        for value in (deep_list(), deep_dict(), deep_tuple()):
            self.refuses(value)
            self.refuses([value])
            self.refuses([{"a": value}])
            self.refuses([{"a": (value, value)}])
        self.refuses([{deep_tuple(): (0, 0)}])


class NeverChanged(unittest.TestCase):
    def setUp(self):
        self.states = copy.deepcopy(STATES)
        self.rule = Rule(self.states)

    def assert_as_at_first(self):
        self.assertEqual(self.rule, Rule(STATES))
        self.assertEqual(self.rule.states(), STATES)
        self.assertEqual(modes_of(TWO_MODES, self.rule, ["q", "q", "p", "q"]), [0, 1, 0, 0])
        self.assertIsNone(check(TWO_MODES, self.rule))

    def test_what_is_handed_in_stays(self):
        self.assertEqual(self.states, STATES)
        for value in odd_values():
            before = copy.deepcopy(value)
            with self.assertRaises(BadRule):
                Rule([{"a": value}])
            self.assertEqual(value, before)

    def test_changing_what_was_handed_in(self):
        self.states[0]["q"] = (1, 0)
        self.assert_as_at_first()
        self.states[1].clear()
        self.states.append({})
        self.assert_as_at_first()

    def test_changing_what_was_told(self):
        told = self.rule.states()
        told[0]["q"] = (1, 0)
        self.assert_as_at_first()
        told[1].clear()
        told.clear()
        self.assert_as_at_first()

    def test_one_dict_handed_in_twice(self):
        rule = Rule([{"a": (0, 1)}] * 2)
        told = rule.states()
        told[0]["a"] = (3, 0)
        self.assertEqual(told[1], {"a": (0, 1)})
        self.assertEqual(rule.states(), [{"a": (0, 1)}, {"a": (0, 1)}])

    def test_told_values_are_new_each_time(self):
        self.assertIsNot(self.rule.states(), self.rule.states())
        self.assertIsNot(self.rule.states()[0], self.rule.states()[0])

    def test_what_is_told_can_be_handed_in(self):
        self.assertEqual(Rule(self.rule.states()), self.rule)


class Compared(unittest.TestCase):
    def test_equal_rules(self):
        other = Rule(copy.deepcopy(STATES))
        self.assertTrue(RULE == other)
        self.assertFalse(RULE != other)

    def test_keys_in_another_order(self):
        state = {"c": (0, 1), "a": (1, 0), "b": (2, 1)}
        first = Rule([state, state])
        for names in permutations(state):
            other = Rule([{name: state[name] for name in names}, state])
            self.assertTrue(first == other)
            self.assertFalse(first != other)
            self.assertEqual([list(told) for told in other.states()], [list(told) for told in first.states()])

    def test_rules_that_differ(self):
        others = [
            Rule([{"q": (1, 1), "p": (0, 0)}, {"q": (1, 1), "p": (0, 0)}]),
            Rule([{"q": (0, 0), "p": (0, 0)}, {"q": (1, 1), "p": (0, 0)}]),
            Rule([{"q": (0, 1), "p": (0, 0)}, {"q": (1, 1), "p": (0, 1)}]),
            Rule([{"q": (0, 1), "r": (0, 0)}, {"q": (1, 1), "r": (0, 0)}]),
            Rule([{"q": (0, 1)}, {"q": (1, 1)}]),
            Rule(list(reversed(STATES))),
            Rule(STATES + [{"q": (0, 0), "p": (0, 0)}]),
        ]
        for other in others:
            self.assertFalse(RULE == other)
            self.assertTrue(RULE != other)
            self.assertTrue(other != RULE)

    def test_no_other_value_is_equal(self):
        others = odd_values() + [STATES, tuple(STATES), [RULE], TWO_MODES, System([[0]], {"a": [0]})]
        for other in others:
            self.assertFalse(RULE == other)
            self.assertTrue(RULE != other)
            self.assertTrue(other != RULE)
        self.assertFalse(RULE == mock.ANY)


class Fitting(unittest.TestCase):
    def refuses(self, system, rule, place, kind):
        rows = [[], [system.names[0]], None, ["none"], deep_list()]
        calls = [lambda: check(system, rule)]
        calls += [lambda row=row: modes_of(system, rule, row) for row in rows]
        calls += [lambda row=row: cost(system, rule, row) for row in rows]
        for call in calls:
            with self.assertRaises(Unfit) as caught:
                call()
            self.assertIs(type(caught.exception.place), int)
            self.assertEqual([caught.exception.place, caught.exception.kind], [place, kind])

    def test_fitting_rules(self):
        for system, rule in FITTING:
            self.assertIsNone(check(system, rule))
            self.assertIsNone(check(rule=rule, system=system))

    def test_kinds_that_the_system_does_not_have(self):
        states = [dict(state, zz=(3, 1), aa=(3, 0)) for state in STATES]
        rule = Rule(states)
        self.assertIsNone(check(TWO_MODES, rule))
        self.assertEqual(modes_of(TWO_MODES, rule, ["q", "q", "p", "q"]), [0, 1, 0, 0])
        self.assertEqual(cost(TWO_MODES, rule, ["q", "q", "p", "q"]), 5)
        for call in (modes_of, cost):
            with self.assertRaises(BadRow) as caught:
                call(TWO_MODES, rule, ["q", "zz"])
            self.assertEqual(caught.exception.index, 1)

    def test_a_mode_that_the_system_does_not_have(self):
        self.refuses(TWO_MODES, Rule([{"p": (0, 0), "q": (2, 0)}]), 0, "q")
        self.refuses(TWO_MODES, Rule([{"p": (3, 0), "q": (0, 0)}]), 0, "p")
        self.refuses(System([[0]], {"a": [0]}), Rule([{"a": (1, 0)}]), 0, "a")
        self.assertIsNone(check(TWO_MODES, Rule([{"p": (1, 0), "q": (1, 0)}])))

    def test_a_mode_that_cannot_serve(self):
        self.refuses(THREE_MODES, Rule([{"z": (0, 0), "x": (1, 0)}]), 0, "x")
        self.refuses(IDLE_MODE, Rule([{"a": (0, 0), "b": (2, 0), "c": (1, 0)}]), 0, "c")
        self.assertIsNone(check(THREE_MODES, Rule([{"z": (0, 0), "x": (2, 0)}])))

    def test_a_kind_that_the_rule_does_not_have(self):
        self.refuses(TWO_MODES, Rule([{"p": (0, 0)}]), 0, "q")
        self.refuses(TWO_MODES, Rule([{"q": (0, 0), "r": (0, 0)}]), 0, "p")
        self.refuses(TWO_MODES, Rule([{"r": (0, 0)}, {"r": (0, 0)}]), 0, "p")

    def test_a_state_that_is_never_reached(self):
        rule = Rule([{"p": (0, 0), "q": (0, 0)}, {"p": (0, 1), "q": (2, 1)}])
        self.refuses(TWO_MODES, rule, 1, "q")

    def test_the_first_state_and_the_first_kind(self):
        good = {"a": (0, 0), "b": (2, 0), "c": (0, 0)}
        several = {"c": (1, 0), "b": (0, 0), "a": (0, 0)}
        all_bad = {"c": (3, 0), "b": (3, 0), "a": (3, 0)}
        self.refuses(IDLE_MODE, Rule([good, several, all_bad]), 1, "b")
        self.refuses(IDLE_MODE, Rule([good, good, all_bad, several]), 2, "a")
        self.refuses(IDLE_MODE, Rule([several, all_bad]), 0, "b")
        self.refuses(IDLE_MODE, Rule([good] * 7 + [several]), 7, "b")

    def test_a_missing_kind_behind_and_ahead_of_a_bad_mode(self):
        self.refuses(IDLE_MODE, Rule([{"a": (0, 0), "b": (0, 0)}]), 0, "b")
        self.refuses(IDLE_MODE, Rule([{"a": (0, 0), "c": (3, 0)}]), 0, "b")


class Served(unittest.TestCase):
    def test_modes_and_costs_of_short_rows(self):
        for system, rule in FITTING:
            for row in all_rows(system, 4):
                modes = modes_by_hand(rule.states(), row)
                self.assertEqual(modes_of(system, rule, row), modes)
                self.assertEqual(cost(system, rule, row), cost_by_hand(system, row, modes))

    def test_long_rows(self):
        for system, rule in FITTING:
            for many in (60, 2000):
                row = long_row(system, many)
                modes = modes_by_hand(rule.states(), row)
                self.assertEqual(modes_of(system, rule, row), modes)
                self.assertEqual(cost(system, rule, row), cost_by_hand(system, row, modes))

    def test_the_empty_row(self):
        for system, rule in FITTING:
            self.assertEqual(modes_of(system, rule, []), [])
            self.assertEqual(cost(system, rule, []), 0)

    def test_it_begins_in_state_0_and_in_mode_0(self):
        rule = Rule([{"p": (1, 1), "q": (1, 1)}, {"p": (0, 1), "q": (0, 1)}])
        self.assertEqual(modes_of(TWO_MODES, rule, ["q", "q"]), [1, 0])
        self.assertEqual(cost(TWO_MODES, rule, ["q"]), 1)
        self.assertEqual(cost(TWO_MODES, rule, ["q", "q"]), 4)

    def test_eight_states(self):
        rule = Rule([{"p": (k // 4, (k + 1) % 8), "q": (k % 2, 7)} for k in range(8)])
        row = ["p"] * 17 + ["q", "p", "q"]
        modes = [0, 0, 0, 0, 1, 1, 1, 1] * 2 + [0] + [1, 1, 0]
        self.assertEqual(modes_of(TWO_MODES, rule, row), modes)
        self.assertEqual(cost(TWO_MODES, rule, row), cost_by_hand(TWO_MODES, row, modes))

    def test_arguments_by_name(self):
        row = ["q", "q", "p", "q"]
        self.assertEqual(modes_of(row=row, rule=RULE, system=TWO_MODES), [0, 1, 0, 0])
        self.assertEqual(cost(row=row, rule=RULE, system=TWO_MODES), 5)

    def test_at_least_the_best_and_the_debt_of_its_mode(self):
        for system, rule in FITTING:
            for row in all_rows(system, 4):
                mode = ([0] + modes_of(system, rule, row))[-1]
                self.assertGreaterEqual(cost(system, rule, row), best(system, row) + debts(system, row)[mode])

    def test_wrong_rows(self):
        def refuses(row, index):
            for call in (modes_of, cost):
                with self.assertRaises(BadRow) as caught:
                    call(TWO_MODES, RULE, row)
                self.assertEqual(caught.exception.index, index)

        for value in odd_values():
            if not isinstance(value, list):
                refuses(value, 0)
            if value not in ("p", "q"):
                refuses([value], 0)
                refuses(["p"] * 9 + [value, value], 9)
        refuses(("p", "q"), 0)
        refuses("pq", 0)

    def test_arguments_are_not_changed(self):
        rule = Rule(STATES)
        row = ["q", "p", "q"]
        told = modes_of(TWO_MODES, rule, row)
        told.append(7)
        cost(TWO_MODES, rule, row)
        self.assertEqual(row, ["q", "p", "q"])
        self.assertEqual(rule, RULE)
        self.assertEqual(modes_of(TWO_MODES, rule, row), [0, 0, 0])


if __name__ == "__main__":
    unittest.main()
