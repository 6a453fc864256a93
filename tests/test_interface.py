"""The names, the parameters and the places that the document's interface lists."""

import inspect
import unittest

from latewise import (
    averages, compare, drawn, factors, games, hindsight, known, live, mixing, mixtures, prices, rules, smallest, sources,
    systems,
)
from helpers import TWO_MODES

FUNCTIONS = [
    (hindsight, "best", ["system", "row"]),
    (hindsight, "best_plan", ["system", "row"]),
    (hindsight, "plan_cost", ["system", "row", "plan"]),
    (hindsight, "debts", ["system", "row"]),
    (hindsight, "growth", ["system", "some_debts", "kind"]),
    (rules, "check", ["system", "rule"]),
    (rules, "modes_of", ["system", "rule", "row"]),
    (rules, "cost", ["system", "rule", "row"]),
    (factors, "spots", ["system", "rule"]),
    (factors, "factor", ["system", "rule"]),
    (factors, "bad_loop", ["system", "rule"]),
    (factors, "bounds", ["system", "rule", "some_factor"]),
    (factors, "are_bounds", ["system", "rule", "some_factor", "bounds"]),
    (factors, "excess", ["system", "rule", "some_factor"]),
    (compare, "parting_row", ["system", "first", "second"]),
    (compare, "lead", ["system", "first", "second"]),
    (games, "least_factor", ["system"]),
    (games, "choices", ["system"]),
    (games, "requests", ["system"]),
    (games, "have_factor", ["system", "choices", "some_factor"]),
    (games, "hold_factor", ["system", "requests", "some_factor"]),
    (smallest, "smallest_rule", ["system", "some_factor", "most"]),
    (smallest, "shortfalls", ["system", "some_factor", "many"]),
    (smallest, "reduced", ["system", "rule"]),
    (known, "known_factor", ["system", "known", "follows"]),
    (known, "rule_factor", ["system", "rule", "follows"]),
    (mixtures, "mixed_cost", ["system", "mixture", "row"]),
    (mixtures, "mixture_factor", ["system", "mixture"]),
    (mixtures, "mixture_loop", ["system", "mixture"]),
    (mixtures, "mixture_bounds", ["system", "mixture", "some_factor"]),
    (mixtures, "are_mixture_bounds", ["system", "mixture", "some_factor", "bounds"]),
    (mixing, "best_mixture", ["system", "rules"]),
    (mixing, "hard_loops", ["system", "rules"]),
    (mixing, "are_hard", ["system", "rules", "loops", "some_factor"]),
    (sources, "check_source", ["system", "source"]),
    (sources, "chance", ["source", "row"]),
    (sources, "parting_draws", ["first", "second"]),
    (sources, "reduced_source", ["source"]),
    (averages, "expected_cost", ["system", "rule", "source", "many"]),
    (averages, "expected_best", ["system", "source", "many"]),
    (averages, "rule_average", ["system", "rule", "source"]),
    (averages, "best_average", ["system", "source"]),
    (averages, "mixture_average", ["system", "mixture", "source"]),
    (averages, "rule_table", ["system", "rule", "source"]),
    (averages, "best_table", ["system", "source"]),
    (averages, "is_rule_table", ["system", "rule", "source", "table"]),
    (averages, "is_best_table", ["system", "source", "table"]),
    (prices, "least_average", ["system", "source"]),
    (prices, "prices_with_orders", ["system", "source"]),
    (prices, "are_prices", ["system", "source", "fraction", "some_prices"]),
    (prices, "keep_prices", ["system", "source", "fraction", "some_prices", "orders"]),
    (prices, "shown_factor", ["system", "source"]),
    (systems, "System", ["switches", "kinds"]),
    (rules, "Rule", ["states"]),
    (live, "Live", ["system", "rule", "some_factor"]),
    (mixtures, "Mixture", ["parts"]),
    (sources, "Source", ["states"]),
    (drawn, "LiveMixture", ["system", "mixture", "some_factor"]),
    (drawn, "LiveSource", ["system", "source", "rule"]),
]
METHODS = [
    (systems.System, "switch", ["self", "first", "second"]),
    (systems.System, "service", ["self", "kind", "mode"]),
    (systems.System, "switches", ["self"]),
    (systems.System, "kinds", ["self"]),
    (rules.Rule, "states", ["self"]),
    *[(live.Live, name, ["self"]) for name in (
        "system", "rule", "mode", "state", "paid", "best", "debts", "left", "allowance", "worst_row", "mark",
    )],
    (live.Live, "serve", ["self", "kind"]),
    (live.Live, "change_rule", ["self", "rule"]),
    (live.Live, "change_system", ["self", "system"]),
    (live.Live, "back", ["self", "number"]),
    (mixtures.Mixture, "parts", ["self"]),
    (sources.Source, "states", ["self"]),
    *[(drawn.LiveMixture, name, ["self"]) for name in ("paid", "best", "debts", "left", "allowance", "drawn", "mark")],
    (drawn.LiveMixture, "serve", ["self", "kind"]),
    (drawn.LiveMixture, "draw", ["self", "number"]),
    (drawn.LiveMixture, "back", ["self", "number"]),
    *[(drawn.LiveSource, name, ["self"]) for name in ("table", "position", "paid", "due", "luck")],
    (drawn.LiveSource, "serve", ["self", "kind"]),
]


class InterfaceTest(unittest.TestCase):
    def test_functions_and_classes_stand_in_their_files(self):
        for module, name, parameters in FUNCTIONS:
            found = getattr(module, name)
            self.assertEqual(found.__module__, module.__name__)
            self.assertEqual(list(inspect.signature(found).parameters), parameters)

    def test_methods_stand_in_their_classes(self):
        for owner, name, parameters in METHODS:
            self.assertIn(name, vars(owner))
            self.assertEqual(list(inspect.signature(vars(owner)[name]).parameters), parameters)

    def test_attributes_are_set_when_a_system_is_created(self):
        self.assertEqual([vars(TWO_MODES)["modes"], vars(TWO_MODES)["names"]], [2, ("p", "q")])


if __name__ == "__main__":
    unittest.main()
