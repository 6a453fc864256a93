"""Points 5 and 6, and the first sentences of point 18 where they speak of rows and plans."""

import copy
import unittest
from random import Random
from unittest import mock

from helpers import (
    FOUR_MODES, IDLE_MODE, ONE_MODE, SYSTEMS, THREE_MODES, TWO_MODES,
    all_plans, all_rows, best_by_hand, best_from_behind, cost_by_hand, debts_by_hand, deep_dict, deep_list, long_row,
    odd_values,
)
from latewise import hindsight
from latewise.errors import BadPlan, BadRow
from latewise.hindsight import best, best_plan, debts, growth, plan_cost
from latewise.systems import System
from reckoning import drawn_pairs, growth_by_hand, start_of

LONGEST = {1: 5, 2: 5, 3: 5, 4: 3}


def short_rows(system):
    return all_rows(system, LONGEST[system.modes])


class TriedOut(unittest.TestCase):
    def test_the_empty_row(self):
        for system in SYSTEMS:
            self.assertEqual(best(system, []), 0)
            self.assertEqual(best_plan(system, []), [])
            self.assertEqual(plan_cost(system, [], []), 0)
            self.assertEqual(debts(system, []), (0,) + (None,) * (system.modes - 1))

    def test_best_of_short_rows(self):
        for system in SYSTEMS:
            for row in short_rows(system):
                self.assertEqual(best(system, row), best_by_hand(system, row), row)

    def test_best_plan_of_short_rows(self):
        for system in SYSTEMS:
            for row in short_rows(system):
                plan = best_plan(system, row)
                self.assertIn(plan, all_plans(system, row))
                self.assertEqual(cost_by_hand(system, row, plan), best_by_hand(system, row), row)

    def test_debts_of_short_rows(self):
        for system in SYSTEMS:
            for row in short_rows(system):
                self.assertEqual(debts(system, row), debts_by_hand(system, row), row)

    def test_plan_cost_of_all_plans(self):
        for system in SYSTEMS:
            for row in all_rows(system, 3):
                for plan in all_plans(system, row):
                    self.assertEqual(plan_cost(system, row, plan), cost_by_hand(system, row, plan))

    def test_growth_at_each_request(self):
        for system in SYSTEMS:
            for row in short_rows(system):
                for kind in system.names:
                    told = growth(system, debts(system, row), kind)
                    longer = row + [kind]
                    self.assertEqual(told, (best(system, longer) - best(system, row), debts(system, longer)))

    def test_debts_that_are_none(self):
        self.assertEqual(debts(THREE_MODES, ["z"]), (0, 1, 4))
        self.assertEqual(debts(THREE_MODES, ["z", "x"]), (None, None, 0))
        self.assertEqual(debts(IDLE_MODE, ["a"]), (0, None, None))
        self.assertEqual(debts(IDLE_MODE, ["b", "c"]), (8, None, 0))
        self.assertEqual(growth(IDLE_MODE, (0, None, None), "b"), (6, (None, None, 0)))

    def test_debts_and_growths_reach_8(self):
        system = System([[0, 4], [4, 0]], {"a": [0, 4], "b": [None, 4]})
        self.assertEqual(debts(system, ["a"]), (0, 8))
        self.assertEqual(growth(system, (0, None), "b"), (8, (None, 0)))

    def test_kinds_of_values(self):
        for system in SYSTEMS:
            row = [system.names[0], system.names[-1]]
            grown = growth(system, debts(system, row), system.names[0])
            self.assertIs(type(best(system, row)), int)
            self.assertIs(type(best_plan(system, row)), list)
            self.assertIs(type(debts(system, row)), tuple)
            self.assertIs(type(grown), tuple)
            self.assertEqual(len(grown), 2)
            self.assertIs(type(grown[1]), tuple)

    def test_only_one_switch_ahead_of_a_request(self):
        # By way of mode 1 the two switches would cost 2.
        self.assertEqual(best(THREE_MODES, ["x"]), 4)
        self.assertEqual(best_plan(THREE_MODES, ["x"]), [2])
        self.assertEqual(best_plan(THREE_MODES, ["z", "x"]), [1, 2])


class LongRows(unittest.TestCase):
    def test_rows_of_sixty_requests_and_more(self):
        for system in SYSTEMS:
            for many in (60, 61, 500, 3000):
                row = long_row(system, many)
                least = best_from_behind(system, row)
                plan = best_plan(system, row)
                self.assertEqual(best(system, row), least)
                self.assertEqual(len(plan), many)
                self.assertEqual(cost_by_hand(system, row, plan), least)
                self.assertEqual(plan_cost(system, row, plan), least)

    def test_growths_and_debts_along_a_long_row(self):
        for system in SYSTEMS:
            row = long_row(system, 300)
            now = debts(system, [])
            total = 0
            for kind in row:
                grown, now = growth(system, now, kind)
                self.assertIn(grown, range(9))
                self.assertEqual(min(debt for debt in now if debt is not None), 0)
                self.assertTrue(all(debt is None or 0 <= debt <= 8 for debt in now))
                total += grown
            self.assertEqual(total, best(system, row))
            self.assertEqual(now, debts(system, row))

    def test_a_long_row_of_one_kind(self):
        self.assertEqual(best(ONE_MODE, ["a"] * 1000), 3000)
        self.assertEqual(best(TWO_MODES, ["q"] * 1000), 1)
        self.assertEqual(best_plan(TWO_MODES, ["p"] * 1000), [0] * 1000)


class ManyRequests(unittest.TestCase):
    """The input of the report that best, debts and best_plan were slow."""

    SYSTEM = System([[0, 3, 1, 2], [1, 0, 2, 1], [2, 1, 0, 3], [1, 1, 2, 0]], {
        "ski": [1, 0, 2, None], "end": [0, 2, 1, 1], "go": [4, None, 0, 1], "up": [None, 2, 2, 0],
    })
    FOUR = ["ski", "go", "end", "up"]

    def test_the_answers_by_plain_reckoning(self):
        switches, kinds = self.SYSTEM.switches(), self.SYSTEM.kinds()
        far = 10 ** 9
        totals = [0, far, far, far]
        for kind in self.FOUR * 60000:
            totals = [
                far if kinds[kind][mode] is None
                else min(totals[k] + switches[k][mode] for k in range(4)) + kinds[kind][mode] for mode in range(4)
            ]
        self.assertEqual(totals, [far, 240004, 240003, 240001])

    def test_the_answers(self):
        row = self.FOUR * 60000
        self.assertEqual(best(self.SYSTEM, row), 240001)
        # The report has (None, 1, 0, 0) here, which are the debts of the first four requests.
        self.assertEqual(debts(self.SYSTEM, row), (None, 3, 2, 0))
        self.assertEqual(plan_cost(self.SYSTEM, row, best_plan(self.SYSTEM, row)), 240001)
        self.assertEqual(row, self.FOUR * 60000)

    def test_the_first_four_requests(self):
        self.assertEqual(debts_by_hand(self.SYSTEM, self.FOUR), (None, 1, 0, 0))
        self.assertEqual(debts(self.SYSTEM, self.FOUR), (None, 1, 0, 0))
        self.assertEqual([best(self.SYSTEM, self.FOUR), best_by_hand(self.SYSTEM, self.FOUR)], [5, 5])

    def test_the_same_debts_are_reckoned_once_for_each_kind(self):
        row = self.FOUR * 60000
        for call in (best, debts, best_plan):
            with mock.patch.object(hindsight, "step", wraps=hindsight.step) as steps:
                call(self.SYSTEM, row)
                self.assertLess(steps.call_count, 100)

    def test_rows_of_sixty_requests_and_their_beginnings(self):
        draw = Random(41)
        for system, _ in drawn_pairs(40, 2):
            row = [draw.choice(system.names) for _ in range(60)]
            total, owed = 0, start_of(system)
            for many in range(len(row) + 1):
                beginning = row[:many]
                self.assertEqual(best(system, beginning), total)
                self.assertEqual(debts(system, beginning), owed)
                plan = best_plan(system, beginning)
                self.assertEqual(len(plan), many)
                self.assertEqual(cost_by_hand(system, beginning, plan), total)
                if many < len(row):
                    grown, owed = growth_by_hand(system, owed, row[many])
                    total += grown


class Facts(unittest.TestCase):
    def test_the_best_is_never_less_with_one_more_at_the_end(self):
        for system in SYSTEMS:
            for row in short_rows(system):
                if row:
                    self.assertLessEqual(best(system, row[:-1]), best(system, row))

    def test_the_best_may_be_less_with_one_more_in_the_row(self):
        self.assertLess(best(THREE_MODES, ["z", "x"]), best(THREE_MODES, ["x"]))

    def test_a_plan_costs_at_least_the_best_and_the_debt_of_its_last_mode(self):
        for system in SYSTEMS:
            for row in all_rows(system, 3):
                least = best(system, row)
                owed = debts(system, row)
                for plan in all_plans(system, row):
                    self.assertGreaterEqual(plan_cost(system, row, plan), least + owed[([0] + plan)[-1]])


class BadRows(unittest.TestCase):
    def calls(self, system, row):
        return [
            lambda: best(system, row),
            lambda: best_plan(system, row),
            lambda: debts(system, row),
            lambda: plan_cost(system, row, []),
            lambda: plan_cost(system, row, None),
            lambda: plan_cost(system, row, [9, True]),
            lambda: plan_cost(system, row, [0, 0, 0, 0]),
        ]

    def refuses(self, row, index, system=TWO_MODES):
        for call in self.calls(system, row):
            with self.assertRaises(BadRow) as caught:
                call()
            self.assertIs(type(caught.exception.index), int)
            self.assertEqual(caught.exception.index, index)

    def test_no_list(self):
        for row in odd_values():
            if not isinstance(row, list):
                self.refuses(row, 0)
        for row in ("pq", ("p", "q"), {"p": "q"}, {"q": 0}, 3, TWO_MODES):
            self.refuses(row, 0)

    def test_the_first_thing_that_is_no_name_of_a_kind(self):
        for thing in odd_values():
            if thing not in ("p", "q"):
                self.refuses([thing], 0)
                self.refuses(["p", thing], 1)
                self.refuses(["p", "q", thing, "p", thing], 2)

    def test_names_that_are_none_of_this_system(self):
        for thing in ("a", "P", "pp", "", "p ", ("p",), ["p"], {"p": 0}, TWO_MODES, b"p"):
            self.refuses(["q", thing], 1)
        self.refuses(["p"], 0, system=ONE_MODE)

    def test_deep_things(self):
        self.refuses(deep_list(), 0)
        self.refuses(deep_dict(), 0)
        self.refuses(["q"] * 70 + [deep_list(), "p"], 70)

    def test_the_last_thing_of_a_long_row(self):
        self.refuses(["q", "p"] * 100 + [None], 200)


class BadPlans(unittest.TestCase):
    def refuses(self, row, plan, index, system=TWO_MODES):
        with self.assertRaises(BadPlan) as caught:
            plan_cost(system, row, plan)
        self.assertIs(type(caught.exception.index), int)
        self.assertEqual(caught.exception.index, index)

    def test_no_list(self):
        for row in ([], ["p"], ["p", "q", "q"]):
            for plan in odd_values():
                if not isinstance(plan, list):
                    self.refuses(row, plan, 0)
            self.refuses(row, (0,) * len(row), 0)
            self.refuses(row, {k: 0 for k in range(len(row))}, 0)

    def test_too_short(self):
        self.refuses(["p"], [], 0)
        self.refuses(["p", "q", "p"], [0, 1], 2)
        self.refuses(["p"] * 80, [0] * 79, 79)

    def test_too_long(self):
        self.refuses([], [0], 0)
        self.refuses(["p", "q"], [0, 1, 0], 2)
        self.refuses(["p"] * 80, [0] * 90, 80)

    def test_things_beyond_the_lesser_length_mean_nothing(self):
        self.refuses(["p"], [0, None, 9], 1)
        self.refuses([], [deep_list()], 0)

    def test_a_wrong_thing_ahead_of_a_wrong_length(self):
        self.refuses(["p", "q", "p"], [0, 2], 1)
        self.refuses(["p", "q"], [0, -1, 0, 0], 1)
        self.refuses(["p", "q", "p"], [None], 0)

    def test_no_mode(self):
        for thing in odd_values() + [2, 3, 4, 1.0, "0"]:
            self.refuses(["p", "q", "p"], [0, thing, 0], 1)
            self.refuses(["p", "q", "p"], [thing, thing, thing], 0)
            self.refuses(["p", "q", "p"], [0, 1, thing], 2)

    def test_the_edges_of_the_modes(self):
        self.assertEqual(plan_cost(FOUR_MODES, ["a"], [3]), 2)
        self.refuses(["a"], [4], 0, system=FOUR_MODES)
        self.refuses(["a"], [-1], 0, system=FOUR_MODES)
        self.refuses(["a"], [1], 0, system=ONE_MODE)

    def test_a_mode_that_cannot_serve(self):
        self.refuses(["x"], [0], 0, system=THREE_MODES)
        self.refuses(["z", "x"], [1, 1], 1, system=THREE_MODES)
        self.refuses(["a", "a"], [0, 1], 1, system=IDLE_MODE)
        self.assertEqual(plan_cost(THREE_MODES, ["z", "x"], [1, 2]), 2)


class Passed(unittest.TestCase):
    def test_by_name(self):
        row = ["q", "q", "p"]
        self.assertEqual(best(row=row, system=TWO_MODES), best(TWO_MODES, row))
        self.assertEqual(debts(row=row, system=TWO_MODES), debts(TWO_MODES, row))
        self.assertEqual(best_plan(row=row, system=TWO_MODES), best_plan(TWO_MODES, row))
        self.assertEqual(plan_cost(plan=[0, 1, 0], row=row, system=TWO_MODES), 4)
        self.assertEqual(growth(kind="q", some_debts=(0, None), system=TWO_MODES), (1, (0, 0)))

    def test_arguments_are_not_changed(self):
        for system in SYSTEMS:
            before = System(system.switches(), system.kinds())
            row = long_row(system, 20)
            kept = list(row)
            plan = best_plan(system, row)
            same = list(plan)
            best(system, row)
            debts(system, row)
            plan_cost(system, row, plan)
            growth(system, debts(system, row), row[0])
            self.assertEqual([row, plan], [kept, same])
            self.assertEqual(system, before)

    def test_wrong_arguments_are_not_changed(self):
        for value in odd_values():
            before = copy.deepcopy(value)
            with self.assertRaises(BadRow):
                best(TWO_MODES, [value, 0])
            with self.assertRaises(BadPlan):
                plan_cost(TWO_MODES, ["p"], [value, 0])
            self.assertEqual(value, before)

    def test_plans_are_new_lists(self):
        row = ["q", "p", "q"]
        first = best_plan(TWO_MODES, row)
        kept = list(first)
        first.append(7)
        self.assertEqual(best_plan(TWO_MODES, row), kept)

    def test_keys_in_another_order(self):
        for system in SYSTEMS:
            kinds = system.kinds()
            other = System(system.switches(), {name: kinds[name] for name in reversed(system.names)})
            row = long_row(system, 30)
            self.assertEqual(best(other, row), best(system, row))
            self.assertEqual(debts(other, row), debts(system, row))


if __name__ == "__main__":
    unittest.main()
