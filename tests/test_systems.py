"""Point 4, and what point 3 says of systems."""

import copy
import unittest
from itertools import permutations
from unittest import mock

from helpers import SYSTEMS, deep_dict, deep_list, deep_tuple, odd_values
from latewise.errors import BadKinds, BadSwitches
from latewise.rules import Rule
from latewise.systems import System

SWITCHES = [[0, 1], [2, 0]]
KINDS = {"q": [1, 0], "p": [0, 2]}


class Told(unittest.TestCase):
    def test_what_a_system_tells(self):
        system = System(SWITCHES, KINDS)
        self.assertEqual(system.modes, 2)
        self.assertEqual(system.names, ("p", "q"))
        self.assertIsInstance(system.names, tuple)
        self.assertEqual([[system.switch(a, b) for b in (0, 1)] for a in (0, 1)], SWITCHES)
        self.assertEqual({kind: [system.service(kind, m) for m in (0, 1)] for kind in "pq"}, KINDS)
        self.assertEqual(system.switches(), SWITCHES)
        self.assertEqual(system.kinds(), KINDS)

    def test_arguments_by_name(self):
        system = System(kinds=KINDS, switches=SWITCHES)
        self.assertEqual(system, System(SWITCHES, KINDS))
        self.assertEqual(system.switch(second=0, first=1), 2)
        self.assertEqual(system.service(mode=1, kind="p"), 2)

    def test_service_is_none_where_a_mode_cannot_serve(self):
        system = System([[0, 0], [0, 0]], {"a": [None, 4], "b": [0, None]})
        self.assertIsNone(system.service("a", 0))
        self.assertEqual(system.service("a", 1), 4)
        self.assertIsNone(system.service("b", 1))

    def test_one_to_four_modes(self):
        for modes in (1, 2, 3, 4):
            switches = [[0 if a == b else (a + b) % 5 for b in range(modes)] for a in range(modes)]
            system = System(switches, {"a": [4] * modes})
            self.assertEqual(system.modes, modes)
            self.assertEqual(system.switches(), switches)

    def test_one_to_four_kinds(self):
        for many in (1, 2, 3, 4):
            names = ["b", "abcdefgh", "z", "aa"][:many]
            system = System([[0]], {name: [1] for name in names})
            self.assertEqual(system.names, tuple(sorted(names)))

    def test_names_of_one_to_eight_letters(self):
        for name in ("a", "z", "az", "abcdefgh", "zzzzzzzz", "ijklmnop", "qrstuvwx"):
            self.assertEqual(System([[0]], {name: [0]}).names, (name,))

    def test_costs_from_0_to_4(self):
        for cost in range(5):
            system = System([[0, cost], [4 - cost, 0]], {"a": [cost, None]})
            self.assertEqual([system.switch(0, 1), system.switch(1, 0)], [cost, 4 - cost])
            self.assertEqual(system.service("a", 0), cost)

    def test_a_mode_that_serves_nothing(self):
        system = System([[0, 1], [1, 0]], {"a": [1, None], "b": [2, None]})
        self.assertEqual([system.service("a", 1), system.service("b", 1)], [None, None])


class Refused(unittest.TestCase):
    def refuses_switches(self, switches, kinds=None):
        with self.assertRaises(BadSwitches) as caught:
            System(switches, {"a": [0, 0]} if kinds is None else kinds)
        self.assertIs(caught.exception.__class__, BadSwitches)

    def refuses_kinds(self, kinds, modes=2):
        with self.assertRaises(BadKinds) as caught:
            System([[0] * modes for _ in range(modes)], kinds)
        self.assertIs(caught.exception.__class__, BadKinds)

    def test_switches_of_other_kinds(self):
        for value in odd_values() + [Rule([{"a": (0, 0)}]), System([[0]], {"a": [0]})]:
            self.refuses_switches(value)
            self.refuses_switches([value, value])
            self.refuses_switches([[0, value], [0, 0]])
            self.refuses_switches([[0, 0], [0, value]])
            self.refuses_switches([[0, 0], value])

    def test_switches_in_tuples_or_dicts(self):
        self.refuses_switches(((0, 1), (2, 0)))
        self.refuses_switches([(0, 1), (2, 0)])
        self.refuses_switches([[0, 1], (2, 0)])
        self.refuses_switches({0: [0, 1], 1: [2, 0]})
        self.refuses_switches([{0: 0, 1: 1}, {0: 2, 1: 0}])

    def test_too_few_and_too_many_modes(self):
        self.refuses_switches([])
        self.refuses_switches([[0] * 5 for _ in range(5)], {"a": [0] * 5})
        self.refuses_switches([[]])

    def test_switches_of_wrong_lengths(self):
        self.refuses_switches([[0, 1], [0]])
        self.refuses_switches([[0], [0, 0]])
        self.refuses_switches([[0, 1]])
        self.refuses_switches([[0, 1, 2], [0, 0, 2]])
        self.refuses_switches([[0, 1], [1, 0], [1, 1]])
        self.refuses_switches([[0, 1], [1, 0, 1]])

    def test_switch_costs_beyond_the_edges(self):
        for cost in (-1, 5, 10 ** 30):
            self.refuses_switches([[0, cost], [0, 0]])
            self.refuses_switches([[0, 0], [cost, 0]])

    def test_a_switch_to_itself_is_0(self):
        for cost in (1, 4, -1, 5, False, None):
            self.refuses_switches([[cost, 0], [0, 0]])
            self.refuses_switches([[0, 0], [0, cost]])
            self.refuses_switches([[cost]], {"a": [0]})

    def test_a_switch_is_never_none_a_bool_or_a_float(self):
        for cost in (None, True, False, 1.0, "1"):
            self.refuses_switches([[0, cost], [1, 0]])
            self.refuses_switches([[0, 1], [cost, 0]])

    def test_kinds_of_other_kinds(self):
        for value in odd_values() + [Rule([{"a": (0, 0)}]), [["a", [0, 0]]], (("a", [0, 0]),)]:
            self.refuses_kinds(value)
            self.refuses_kinds({"a": value})
            self.refuses_kinds({"a": [0, 0], "b": value})
            if value is not None:
                self.refuses_kinds({"a": [0, value]})
                self.refuses_kinds({"a": [value, 0]})

    def test_too_few_and_too_many_kinds(self):
        self.refuses_kinds({})
        self.refuses_kinds({name: [0, 0] for name in "abcde"})

    def test_names_that_are_none(self):
        odd = ("", "abcdefghi", "A", "aB", "a b", " a", "a ", "a1", "1", "a_", "_", "{", "`", "\u00e9", "a\n", "\u0430")
        for name in odd + (None, True, 1, 0, (), ("a",), b"a", -1):
            self.refuses_kinds({name: [0, 0]})
            self.refuses_kinds({"a": [0, 0], name: [0, 0]})

    def test_services_of_wrong_lengths(self):
        self.refuses_kinds({"a": []})
        self.refuses_kinds({"a": [0]})
        self.refuses_kinds({"a": [0, 0, 0]})
        self.refuses_kinds({"a": [0, 0], "b": [0, None, None]})
        self.refuses_kinds({"a": [0, 0]}, modes=1)
        self.refuses_kinds({"a": [0, 0]}, modes=3)

    def test_services_in_tuples_or_dicts(self):
        self.refuses_kinds({"a": (0, 0)})
        self.refuses_kinds({"a": {0: 0, 1: 0}})

    def test_service_costs_beyond_the_edges(self):
        for cost in (-1, 5, True, False, 1.0, "0", 10 ** 30):
            self.refuses_kinds({"a": [cost, 0]})
            self.refuses_kinds({"a": [None, cost]})
            self.refuses_kinds({"a": [0, 0], "b": [0, cost]})

    def test_a_kind_that_no_mode_can_serve(self):
        self.refuses_kinds({"a": [None, None]})
        self.refuses_kinds({"a": [0, 0], "b": [None, None]})
        self.refuses_kinds({"a": [None]}, modes=1)

    def test_switches_ahead_of_kinds(self):
        for kinds in ({}, None, {"a": [None]}, {"A": [0]}, deep_dict(), [], {"a": [9, 9]}):
            self.refuses_switches([[1]], kinds)
            self.refuses_switches([], kinds)
            self.refuses_switches(None, kinds)

    def test_deep_values(self):
        for value in (deep_list(), deep_dict(), deep_tuple()):
            self.refuses_switches(value)
            self.refuses_switches([value])
            self.refuses_switches([[value]])
            self.refuses_kinds(value)
            self.refuses_kinds({"a": value})
            self.refuses_kinds({"a": [value, value]})
            self.refuses_switches(value, value)
        self.refuses_kinds({deep_tuple(): [0, 0]})


class NeverChanged(unittest.TestCase):
    def setUp(self):
        self.switches = copy.deepcopy(SWITCHES)
        self.kinds = copy.deepcopy(KINDS)
        self.system = System(self.switches, self.kinds)

    def assert_as_at_first(self):
        self.assertEqual(self.system, System(SWITCHES, KINDS))
        self.assertEqual(self.system.modes, 2)
        self.assertEqual(self.system.names, ("p", "q"))
        self.assertEqual(self.system.switches(), SWITCHES)
        self.assertEqual(self.system.kinds(), KINDS)
        self.assertEqual([self.system.switch(0, 1), self.system.service("p", 1)], [1, 2])

    def test_what_is_handed_in_stays(self):
        self.assertEqual([self.switches, self.kinds], [SWITCHES, KINDS])
        for value in odd_values():
            before = copy.deepcopy(value)
            for switches, kinds in ((value, KINDS), (SWITCHES, value)):
                with self.assertRaises((BadSwitches, BadKinds)):
                    System(switches, kinds)
            self.assertEqual(value, before)

    def test_changing_what_was_handed_in(self):
        self.switches[0][1] = 4
        self.kinds["p"][1] = 4
        self.assert_as_at_first()
        self.switches.append([0, 0])
        self.kinds["r"] = [0, 0]
        del self.kinds["q"]
        self.assert_as_at_first()

    def test_changing_what_was_told(self):
        switches = self.system.switches()
        kinds = self.system.kinds()
        switches[0][1] = 4
        kinds["p"][1] = 4
        self.assert_as_at_first()
        switches.clear()
        kinds.clear()
        self.assert_as_at_first()

    def test_one_list_handed_in_twice(self):
        costs = [0, 1]
        system = System([[0, 1], [1, 0]], {"p": costs, "q": costs})
        told = system.kinds()
        told["p"][0] = 4
        self.assertEqual(told["q"], [0, 1])
        self.assertEqual(system.kinds(), {"p": [0, 1], "q": [0, 1]})

    def test_told_lists_are_new_each_time(self):
        self.assertIsNot(self.system.switches(), self.system.switches())
        self.assertIsNot(self.system.switches()[0], self.system.switches()[0])
        self.assertIsNot(self.system.kinds(), self.system.kinds())
        self.assertIsNot(self.system.kinds()["p"], self.system.kinds()["p"])

    def test_what_is_told_can_be_handed_in(self):
        for system in SYSTEMS:
            self.assertEqual(System(system.switches(), system.kinds()), system)


class Compared(unittest.TestCase):
    def test_equal_systems(self):
        first = System(SWITCHES, KINDS)
        second = System(copy.deepcopy(SWITCHES), copy.deepcopy(KINDS))
        self.assertTrue(first == second)
        self.assertFalse(first != second)
        self.assertTrue(first == first)

    def test_keys_in_another_order(self):
        kinds = {"d": [0, 1], "b": [2, None], "a": [None, 3], "c": [4, 4]}
        first = System(SWITCHES, kinds)
        for names in permutations(kinds):
            second = System(SWITCHES, {name: kinds[name] for name in names})
            self.assertTrue(first == second)
            self.assertFalse(first != second)
            self.assertEqual(second.names, ("a", "b", "c", "d"))
            self.assertEqual(list(second.kinds()), list(first.kinds()))

    def test_systems_that_differ_in_one_number(self):
        first = System(SWITCHES, KINDS)
        others = [
            System([[0, 0], [2, 0]], KINDS),
            System([[0, 1], [3, 0]], KINDS),
            System(SWITCHES, {"q": [1, 1], "p": [0, 2]}),
            System(SWITCHES, {"q": [1, 0], "p": [None, 2]}),
            System(SWITCHES, {"q": [1, 0], "p": [0, None]}),
        ]
        for other in others:
            self.assertFalse(first == other)
            self.assertTrue(first != other)
            self.assertTrue(other != first)

    def test_systems_with_other_kinds_or_modes(self):
        first = System(SWITCHES, KINDS)
        others = [
            System(SWITCHES, {"q": [1, 0]}),
            System(SWITCHES, {"q": [1, 0], "r": [0, 2]}),
            System(SWITCHES, {"q": [0, 2], "p": [1, 0]}),
            System(SWITCHES, {"q": [1, 0], "p": [0, 2], "r": [0, 0]}),
            System([[0]], {"q": [1], "p": [0]}),
            System([[0, 1, 0], [2, 0, 0], [0, 0, 0]], {"q": [1, 0, 0], "p": [0, 2, 0]}),
        ]
        for other in others:
            self.assertFalse(first == other)
            self.assertTrue(first != other)

    def test_no_other_value_is_equal(self):
        system = System([[0]], {"a": [0]})
        rule = Rule([{"a": (0, 0)}])
        others = odd_values() + [rule, (system.switches(), system.kinds()), [system], system.switches(), system.kinds()]
        for other in others:
            self.assertFalse(system == other)
            self.assertTrue(system != other)
            self.assertTrue(other != system)
        self.assertFalse(system == mock.ANY)


if __name__ == "__main__":
    unittest.main()
