"""Points 24, 25 and 26, and what points 3, 5, 6, 19 and 32 say of them."""

import copy
import time
import unittest
from fractions import Fraction
from itertools import product
from random import Random

from chance_reckoning import (
    best_positions_by_hand, chance_by_hand, doubled_source, drawn_source, expected_by_hand, is_table_by_hand,
    rates_by_hand, round_source, rows_that_can_come, rule_positions_by_hand, some_source, told, wrong_fractions,
)
from helpers import FOUR_MODES, IDLE_MODE, ONE_MODE, THREE_MODES, TWO_MODES, odd_values
from joint_reckoning import outcome
from latewise.averages import (
    best_average, best_table, expected_best, expected_cost, is_best_table, is_rule_table, mixture_average, rule_average,
    rule_table,
)
from latewise.errors import TooManyStates, Unfit, UnfitSource
from latewise.hindsight import best
from latewise.mixtures import Mixture
from latewise.rules import Rule, cost
from latewise.sources import Source
from latewise.systems import System
from reckoning import drawn_rule, drawn_system, start_of

RULE = Rule([{"q": (0, 1), "p": (0, 0)}, {"q": (1, 1), "p": (0, 0)}])
OTHER = Rule([{"q": (1, 0), "p": (0, 0)}])
SOURCE = Source([{"q": (1, 0), "p": (1, 0)}])
MIXTURE = Mixture([(3, RULE), (2, OTHER)])
UNFIT = Rule([{"q": (0, 0), "p": (0, 0)}, {"q": (0, 0), "p": (3, 0)}])
UNFIT_SOURCE = Source([{"q": (1, 1)}, {"z": (1, 0), "r": (1, 0), "p": (1, 0)}])
# In the state 0 it goes for good where the first request sends it: to the state 1 in the mode 0, or to the state 2.
PARTED = Rule([{"q": (0, 1), "p": (1, 2)}, {"q": (0, 1), "p": (0, 1)}, {"q": (1, 2), "p": (1, 3)}, {"q": (1, 3), "p": (1, 2)}])

EIGHTY_SYSTEM = System(
    [[0, 2, 0, 1], [4, 0, 3, 1], [3, 0, 0, 0], [3, 4, 0, 0]],
    {"a": [1, 2, 1, 0], "b": [1, 4, 2, 4], "c": [4, 2, 3, 4], "d": [1, 3, 2, 3]},
)
EIGHTY_RULE = Rule([
    {"a": (3, 6), "b": (1, 5), "c": (0, 5), "d": (3, 1)}, {"a": (2, 7), "b": (3, 7), "c": (0, 6), "d": (2, 5)},
    {"a": (0, 1), "b": (3, 2), "c": (1, 7), "d": (3, 7)}, {"a": (2, 7), "b": (3, 3), "c": (3, 5), "d": (1, 3)},
    {"a": (0, 7), "b": (0, 7), "c": (3, 4), "d": (3, 6)}, {"a": (2, 2), "b": (2, 6), "c": (2, 1), "d": (3, 0)},
    {"a": (0, 2), "b": (1, 5), "c": (3, 5), "d": (0, 6)}, {"a": (3, 0), "b": (1, 4), "c": (3, 4), "d": (2, 3)},
])
EIGHTY_SOURCE = Source([
    {"b": (5, 1), "c": (4, 3), "d": (1, 2)}, {"a": (7, 2), "b": (3, 2), "c": (4, 2), "d": (3, 1)},
    {"a": (5, 0), "b": (3, 3), "c": (9, 0), "d": (2, 0)}, {"a": (3, 3), "b": (5, 1), "c": (4, 1)},
])
MORE_SYSTEM = System(
    [[0, 2, 1, 3], [0, 0, 1, 4], [3, 4, 0, 3], [4, 1, 0, 0]],
    {"a": [2, 4, 4, 4], "b": [0, 2, 1, 1], "c": [2, 0, 4, 3], "d": [0, 1, 0, 3]},
)
MORE_RULE = Rule([
    {"a": (3, 2), "b": (0, 2), "c": (3, 7), "d": (2, 6)}, {"a": (1, 0), "b": (1, 5), "c": (1, 2), "d": (1, 4)},
    {"a": (1, 7), "b": (1, 5), "c": (2, 5), "d": (1, 6)}, {"a": (0, 0), "b": (3, 1), "c": (0, 4), "d": (3, 1)},
    {"a": (1, 6), "b": (2, 4), "c": (3, 3), "d": (2, 4)}, {"a": (3, 5), "b": (1, 3), "c": (1, 5), "d": (1, 0)},
    {"a": (0, 4), "b": (1, 1), "c": (1, 3), "d": (2, 3)}, {"a": (2, 3), "b": (0, 7), "c": (3, 4), "d": (0, 1)},
])
MORE_SOURCE = Source([
    {"a": (9, 2), "b": (5, 0), "c": (2, 0), "d": (1, 2)}, {"a": (1, 1), "b": (5, 2), "c": (9, 3), "d": (3, 3)},
    {"a": (1, 3), "d": (1, 2)}, {"a": (3, 0), "b": (9, 1), "c": (9, 1), "d": (6, 0)},
])
EIGHTY_BEST = (
    System([[0, 1, 0, 2], [4, 0, 2, 3], [4, 3, 0, 4], [4, 0, 4, 0]],
           {"a": [2, 3, 0, 3], "b": [4, 1, 4, 0], "c": [0, 4, 3, 4]}),
    Source([{"a": (2, 0), "b": (9, 0), "c": (2, 0)}]),
)
MORE_BEST = (
    System([[0, 2, 4], [3, 0, 2], [3, 3, 0]], {"a": [0, 4, 2], "b": [2, 0, 4], "c": [4, 3, 3]}),
    Source([{"a": (8, 0), "b": (1, 0), "c": (5, 0)}]),
)


def parted_rule(draw, system):
    """A rule with parts that are never left: the first request chooses one of two rules."""
    first, second = drawn_rule(draw, system, draw.randint(1, 3)), drawn_rule(draw, system, draw.randint(1, 4))
    behind = len(first.states())
    states = [{kind: (mode, 1 + draw.choice([0, behind])) for kind, (mode, _) in first.states()[0].items()}]
    states += [{kind: (mode, 1 + at) for kind, (mode, at) in state.items()} for state in first.states()]
    states += [{kind: (mode, 1 + behind + at) for kind, (mode, at) in state.items()} for state in second.states()]
    return Rule(states)


def drawn_cases(seed, many, most=30):
    """So many systems of each size with a rule and a source of each number of states."""
    draw = Random(seed)
    for modes, kinds in product(range(1, 5), range(1, 5)):
        for states in range(1, 5):
            for _ in range(many):
                system = drawn_system(draw, modes, kinds, draw.choice([2, 4, 100]))
                rule = draw.choice([parted_rule(draw, system), drawn_rule(draw, system, draw.randint(1, 8))])
                source = some_source(draw, list(system.names), states)
                if rule_positions_by_hand(system, rule, source, most):
                    yield system, rule, source


class Expected(unittest.TestCase):
    def test_all_rows_with_their_chances(self):
        for system, rule, source in drawn_cases(111, 2, 80):
            for many in (0, 1, 2, 3):
                rows = rows_that_can_come(source, many)
                chances = [chance_by_hand(source, row)[0] for row in rows]
                self.assertEqual(sum(chances), 1)
                paid = sum(odds * cost(system, rule, row) for odds, row in zip(chances, rows))
                self.assertEqual(expected_cost(system, rule, source, many), told(paid))
                grown = sum(odds * best(system, row) for odds, row in zip(chances, rows))
                self.assertEqual(expected_best(system, source, many), told(grown))

    def test_by_hand(self):
        self.assertEqual([expected_cost(TWO_MODES, RULE, SOURCE, 0), expected_best(TWO_MODES, SOURCE, 0)], [(0, 1), (0, 1)])
        self.assertEqual([expected_cost(TWO_MODES, RULE, SOURCE, 1), expected_best(TWO_MODES, SOURCE, 1)], [(1, 2), (1, 2)])
        found = expected_cost(TWO_MODES, RULE, SOURCE, 3)
        self.assertEqual([type(found)] + [type(part) for part in found], [tuple, int, int])
        going = Source([{"q": (3, 1)}, {"p": (8, 0)}])
        self.assertEqual([expected_cost(TWO_MODES, OTHER, going, many) for many in (1, 2, 3, 40)], [(1, 1), (3, 1), (4, 1), (60, 1)])
        self.assertEqual([expected_best(TWO_MODES, going, many) for many in (1, 2, 39, 40)], [(1, 1), (1, 1), (20, 1), (20, 1)])

    def test_longer_rows_in_steps(self):
        for system, rule, source in list(drawn_cases(112, 1, 20))[::3]:
            if len(source.states()) * len(system.names) <= 6:
                steps = rule_positions_by_hand(system, rule, source)
                self.assertEqual(expected_cost(system, rule, source, 6), told(expected_by_hand(steps, (0, 0, 0), 6)))
                steps = best_positions_by_hand(system, source)
                first = 0, start_of(system)
                self.assertEqual(expected_best(system, source, 6), told(expected_by_hand(steps, first, 6)))

    def test_many_positions_are_no_matter(self):
        begun = time.monotonic()
        for system, rule, source in ((EIGHTY_SYSTEM, EIGHTY_RULE, EIGHTY_SOURCE), (MORE_SYSTEM, MORE_RULE, MORE_SOURCE)):
            found = Fraction(*expected_cost(system, rule, source, 40))
            grown = Fraction(*expected_best(system, source, 40))
            self.assertTrue(0 < grown < found < 320)
        self.assertGreater(len(best_positions_by_hand(*MORE_BEST)), 80)
        self.assertGreater(Fraction(*expected_best(*MORE_BEST, 40)), 0)
        self.assertLess(time.monotonic() - begun, 20)

    def test_it_differs_from_the_average_by_a_constant(self):
        for system, rule, source in list(drawn_cases(113, 1))[::5]:
            average = Fraction(*rule_average(system, rule, source))
            apart = [abs(Fraction(*expected_cost(system, rule, source, many)) - many * average) for many in range(41)]
            offsets = [Fraction(*offset) for _, offset in rule_table(system, rule, source).values()]
            self.assertLessEqual(max(apart), max(offsets) - min(offsets))


class Averages(unittest.TestCase):
    def test_all_equations_at_once(self):
        seen = {}
        for system, rule, source in drawn_cases(114, 3, 24):
            steps = rule_positions_by_hand(system, rule, source)
            rates = rates_by_hand(steps)
            seen[len(set(rates.values())) > 1, len(source.states())] = True
            found = rule_average(system, rule, source)
            self.assertEqual(found, told(rates[0, 0, 0]))
            self.assertEqual([type(found)] + [type(part) for part in found], [tuple, int, int])
            table = rule_table(system, rule, source)
            self.assertEqual({place: rate for place, (rate, _) in table.items()}, {place: told(rate) for place, rate in rates.items()})
        self.assertEqual(len(seen), 8)

    def test_all_equations_of_the_best_at_once(self):
        for system, _, source in drawn_cases(115, 2, 80):
            steps = best_positions_by_hand(system, source, 24)
            if steps is not None:
                rates = rates_by_hand(steps)
                self.assertEqual(len(set(rates.values())), 1)
                self.assertEqual(best_average(system, source), told(rates[0, start_of(system)]))

    def test_by_hand(self):
        self.assertEqual([rule_average(TWO_MODES, RULE, SOURCE), best_average(TWO_MODES, SOURCE)], [(5, 8), (3, 7)])
        # Half of all rows begin with "q" and stay in the mode 0, where each second request costs 1; in the mode 1, each
        # second one costs 2.
        self.assertEqual(rule_average(TWO_MODES, PARTED, SOURCE), (3, 4))
        self.assertEqual({rate for rate, _ in rule_table(TWO_MODES, PARTED, SOURCE).values()}, {(1, 2), (1, 1), (3, 4)})
        going = Source([{"q": (3, 1)}, {"p": (8, 0)}])
        self.assertEqual([rule_average(TWO_MODES, RULE, going), rule_average(TWO_MODES, OTHER, going)], [(1, 2), (3, 2)])
        self.assertEqual(best_average(TWO_MODES, going), (1, 2))
        only = Source([{"p": (9, 0)}])
        self.assertEqual([rule_average(TWO_MODES, RULE, only), best_average(TWO_MODES, only)], [(0, 1), (0, 1)])

    def test_mixtures(self):
        self.assertEqual(mixture_average(TWO_MODES, MIXTURE, SOURCE), told(
            Fraction(3, 5) * Fraction(*rule_average(TWO_MODES, RULE, SOURCE))
            + Fraction(2, 5) * Fraction(*rule_average(TWO_MODES, OTHER, SOURCE))))
        draw = Random(116)
        for system, rule, source in list(drawn_cases(117, 1))[::2]:
            rules = [rule]
            for _ in range(6):
                other = drawn_rule(draw, system, draw.randint(1, 3))
                if other not in rules and len(rules) < 3:
                    rules.append(other)
            weights = [draw.choice([1, 2, 9, 10 ** 30 + 1]) for _ in rules]
            wanted = sum(w * Fraction(*rule_average(system, one, source)) for w, one in zip(weights, rules)) / sum(weights)
            self.assertEqual(mixture_average(system, Mixture(list(zip(weights, rules))), source), told(wanted))

    def test_the_best_is_at_most_each_rule(self):
        for system, rule, source in list(drawn_cases(118, 1))[::2]:
            if best_positions_by_hand(system, source, 80):
                self.assertLessEqual(Fraction(*best_average(system, source)), Fraction(*rule_average(system, rule, source)))

    def test_sources_that_draw_alike(self):
        draw = Random(119)
        for system, rule, source in list(drawn_cases(120, 1))[::2]:
            other = doubled_source(draw, source)
            told_too = outcome(lambda: rule_average(system, rule, other))
            if told_too != [TooManyStates, {}]:
                self.assertEqual(told_too, rule_average(system, rule, source))


class Tables(unittest.TestCase):
    def test_of_each_size(self):
        for system, rule, source in drawn_cases(121, 2, 80):
            steps = rule_positions_by_hand(system, rule, source)
            table = rule_table(system, rule, source)
            self.judge(steps, table)
            self.assertEqual(table[0, 0, 0][0], rule_average(system, rule, source))
            self.assertIs(is_rule_table(system, rule, source, table), True)
            steps = best_positions_by_hand(system, source, 80)
            if steps is not None:
                table = best_table(system, source)
                self.judge(steps, table)
                self.assertEqual({rate for rate, _ in table.values()}, {best_average(system, source)})
                self.assertIs(is_best_table(system, source, table), True)

    def judge(self, steps, table):
        self.assertIs(type(table), dict)
        self.assertEqual(set(table), set(steps))
        for pair in table.values():
            self.assertEqual([type(pair), len(pair)], [tuple, 2])
            for fraction in pair:
                self.assertEqual(fraction, told(Fraction(*fraction)))
        self.assertTrue(is_table_by_hand(steps, table))

    def test_the_same_one_each_time(self):
        for system, rule, source in list(drawn_cases(122, 1))[::2]:
            turned = System(system.switches(), dict(reversed(list(system.kinds().items()))))
            turned_rule = Rule([dict(reversed(list(state.items()))) for state in rule.states()])
            turned_source = Source([dict(reversed(list(state.items()))) for state in source.states()])
            table = rule_table(system, rule, source)
            self.assertEqual(rule_table(turned, turned_rule, turned_source), table)
            self.assertIsNot(rule_table(system, rule, source), table)
            if best_positions_by_hand(system, source, 80):
                self.assertEqual(best_table(turned, turned_source), best_table(system, source))

    def test_judged_where_fractions_are_moved(self):
        judged = {}
        moves = [Fraction(1), Fraction(-1, 3), Fraction(1, 10 ** 50), Fraction(10 ** 60)]
        for system, rule, source in list(drawn_cases(123, 1, 12))[::3]:
            steps = rule_positions_by_hand(system, rule, source)
            table = rule_table(system, rule, source)
            for place, by, at in product(table, moves, (0, 1)):
                pair = list(table[place])
                pair[at] = told(Fraction(*pair[at]) + by)
                moved = {**table, place: tuple(pair)}
                right = is_table_by_hand(steps, moved)
                judged[right] = True
                self.assertIs(is_rule_table(system, rule, source, moved), right)
        self.assertEqual(len(judged), 2)

    def test_judged_where_fractions_of_the_best_are_moved(self):
        for system, _, source in list(drawn_cases(124, 1))[::4]:
            steps = best_positions_by_hand(system, source, 12)
            if steps is None:
                continue
            table = best_table(system, source)
            for place, by, at in product(table, (Fraction(1), Fraction(-1, 7)), (0, 1)):
                pair = list(table[place])
                pair[at] = told(Fraction(*pair[at]) + by)
                moved = {**table, place: tuple(pair)}
                self.assertIs(is_best_table(system, source, moved), is_table_by_hand(steps, moved))

    def test_offsets_that_are_raised_alike(self):
        table = rule_table(TWO_MODES, RULE, SOURCE)
        for by in (Fraction(10 ** 300), Fraction(-1, 10 ** 300), Fraction(22, 7)):
            raised = {place: (rate, told(Fraction(*offset) + by)) for place, (rate, offset) in table.items()}
            self.assertIs(is_rule_table(TWO_MODES, RULE, SOURCE, raised), True)
        table = best_table(TWO_MODES, SOURCE)
        raised = {place: (rate, told(Fraction(*offset) - 5)) for place, (rate, offset) in table.items()}
        self.assertIs(is_best_table(TWO_MODES, SOURCE, raised), True)
        # In each of two parts that are never left, and behind which nothing but the beginning stands.
        table = rule_table(TWO_MODES, PARTED, SOURCE)
        first = {place: (rate, told(Fraction(*offset) + (2 if place[1] in (2, 3) else 1 if place[1] == 0 else 0)))
                 for place, (rate, offset) in table.items()}
        self.assertIs(is_rule_table(TWO_MODES, PARTED, SOURCE, first), True)
        self.assertNotEqual(first, table)

    def test_rates_that_are_no_averages_of_those_behind(self):
        # To and fro between two positions the rates may be raised and lowered in turns, and the offsets with them.
        source = Source([{"q": (1, 1)}, {"p": (1, 0)}])
        table = {(0, 0, 0): ((1, 2), (0, 1)), (1, 1, 0): ((1, 2), (-1, 2))}
        self.assertIs(is_rule_table(TWO_MODES, RULE, source, table), True)
        self.assertIs(is_rule_table(TWO_MODES, RULE, source, {(0, 0, 0): ((1, 1), (0, 1)), (1, 1, 0): ((0, 1), (0, 1))}), False)
        steps = best_positions_by_hand(TWO_MODES, source)
        table = best_table(TWO_MODES, source)
        for by in (Fraction(1, 3), Fraction(-2)):
            moved = {}
            for place, (rate, offset) in table.items():
                # The beginning comes but once, and then two positions take turns.
                signs = {1: 1, 0: -1}[place[0]] if place != (0, start_of(TWO_MODES)) else 0
                moved[place] = told(Fraction(*rate) + signs * by), offset
            second = [place for place in table if place[0] == 0 and place != (0, start_of(TWO_MODES))]
            for place in second:
                moved[place] = moved[place][0], told(Fraction(*moved[place][1]) + by)
            self.assertFalse(is_table_by_hand(steps, moved))
            self.assertIs(is_best_table(TWO_MODES, source, moved), False)

    def cases(self):
        """Pairs of a judging function and a right table."""
        return [
            (lambda value: is_rule_table(TWO_MODES, RULE, SOURCE, value), rule_table(TWO_MODES, RULE, SOURCE)),
            (lambda value: is_rule_table(TWO_MODES, PARTED, SOURCE, value), rule_table(TWO_MODES, PARTED, SOURCE)),
            (lambda value: is_best_table(TWO_MODES, SOURCE, value), best_table(TWO_MODES, SOURCE)),
        ]

    def test_keys(self):
        for judge, table in self.cases():
            self.assertIs(judge(table), True)
            for place in table:
                fewer = {one: table[one] for one in table if one != place}
                self.assertIs(judge(fewer), False)
                for other in (None, (), "place", place[:1], (*place, 0), (place[0] + 4, *place[1:]), (place,)):
                    self.assertIs(judge({**fewer, other: table[place]}), False)
                    self.assertIs(judge({**table, other: table[place]}), False)
            odd = {self.with_booleans(place): pair for place, pair in reversed(list(table.items()))}
            self.assertIs(judge(odd), True)
            self.assertEqual(odd, table)

    def with_booleans(self, value):
        if isinstance(value, tuple):
            return tuple(self.with_booleans(part) for part in value)
        return bool(value) if type(value) is int and value in (0, 1) else value

    def test_values_that_are_no_tables(self):
        for judge, table in self.cases():
            for value in odd_values() + [list(table.items()), list(table), tuple(table.items()), RULE, SOURCE, "table", (0, 1)]:
                self.assertIs(judge(value), False)
            place = list(table)[-1]
            rate, offset = table[place]
            for value in wrong_fractions():
                for pair in ((value, offset), (rate, value), value, (value, value)):
                    self.assertIs(judge({**table, place: pair}), False)
            for pair in ([rate, offset], (rate,), (rate, offset, offset), {rate: offset}, (offset, rate, None), rate, (*rate, *offset)):
                self.assertIs(judge({**table, place: pair}), False)

    def test_all_zeros_are_a_table_where_nothing_costs(self):
        system = System([[0, 0], [0, 0]], {"q": [0, 0], "p": [0, 0]})
        table = {place: ((0, 1), (7, 3)) for place in rule_table(system, RULE, SOURCE)}
        self.assertIs(is_rule_table(system, RULE, SOURCE, table), True)
        for value in (True, False, 0, (0, 2), (False, 1), (0, True), [0, 1]):
            self.assertIs(is_rule_table(system, RULE, SOURCE, {place: (value, (7, 3)) for place in table}), False)


class Errors(unittest.TestCase):
    def calls_of_rules(self, system, rule, source):
        return [
            lambda: expected_cost(system, rule, source, 3), lambda: rule_average(system, rule, source),
            lambda: rule_table(system, rule, source), lambda: is_rule_table(system, rule, source, None),
            lambda: is_rule_table(system, rule, source, {}), lambda: mixture_average(system, Mixture([(1, rule)]), source),
        ]

    def calls_of_the_best(self, system, source):
        return [
            lambda: expected_best(system, source, 3), lambda: best_average(system, source), lambda: best_table(system, source),
            lambda: is_best_table(system, source, None), lambda: is_best_table(system, source, {}),
        ]

    def test_unfit_ahead_of_unfit_source(self):
        for source in (SOURCE, UNFIT_SOURCE):
            for call in self.calls_of_rules(TWO_MODES, UNFIT, source):
                self.assertEqual(outcome(call), [Unfit, {"place": 1, "kind": "p"}])
        for call in self.calls_of_rules(TWO_MODES, RULE, UNFIT_SOURCE) + self.calls_of_the_best(TWO_MODES, UNFIT_SOURCE):
            self.assertEqual(outcome(call), [UnfitSource, {"place": 1, "kind": "r"}])

    def test_unfit_source_ahead_of_too_many(self):
        source = Source(MORE_SOURCE.states()[:3] + [{**MORE_SOURCE.states()[3], "d": (1, 0), "a": (1, 0)}])
        states = [{kind.replace("b", "zz"): step for kind, step in state.items()} for state in source.states()]
        for call in self.calls_of_rules(MORE_SYSTEM, MORE_RULE, Source(states)) + self.calls_of_the_best(MORE_SYSTEM, Source(states)):
            self.assertEqual(outcome(call), [UnfitSource, {"place": 0, "kind": "zz"}])

    def test_the_first_rule_of_a_mixture_that_does_not_fit(self):
        too = Rule([{"q": (2, 0), "p": (0, 0)}])
        for rules, wanted in (([RULE, UNFIT, too], {"place": 1, "kind": "p"}), ([RULE, too, UNFIT], {"place": 0, "kind": "q"})):
            mixture = Mixture([(1, rule) for rule in rules])
            for source in (SOURCE, UNFIT_SOURCE):
                self.assertEqual(outcome(lambda: mixture_average(TWO_MODES, mixture, source)), [Unfit, wanted])
        last = Rule([{"a": (0, 0), "b": (0, 0), "c": (0, 0), "d": (0, 0)}, {"a": (0, 0), "b": (0, 0), "c": (0, 0), "d": (3, 0)}])
        barred = System(MORE_SYSTEM.switches(), {**MORE_SYSTEM.kinds(), "d": [0, 1, 0, None]})
        mixture = Mixture([(1, last), (1, MORE_RULE)])
        self.assertEqual(outcome(lambda: mixture_average(barred, mixture, MORE_SOURCE)), [Unfit, {"place": 1, "kind": "d"}])

    def test_positions_of_rules_are_counted(self):
        self.assertEqual(len(rule_positions_by_hand(EIGHTY_SYSTEM, EIGHTY_RULE, EIGHTY_SOURCE)), 80)
        self.assertEqual(len(rule_positions_by_hand(MORE_SYSTEM, MORE_RULE, MORE_SOURCE)), 81)
        begun = time.monotonic()
        table = rule_table(EIGHTY_SYSTEM, EIGHTY_RULE, EIGHTY_SOURCE)
        self.assertIs(is_rule_table(EIGHTY_SYSTEM, EIGHTY_RULE, EIGHTY_SOURCE, table), True)
        self.assertEqual(rule_average(EIGHTY_SYSTEM, EIGHTY_RULE, EIGHTY_SOURCE), table[0, 0, 0][0])
        self.assertLess(time.monotonic() - begun, 20)
        self.assertTrue(is_table_by_hand(rule_positions_by_hand(EIGHTY_SYSTEM, EIGHTY_RULE, EIGHTY_SOURCE), table))
        for call in self.calls_of_rules(MORE_SYSTEM, MORE_RULE, MORE_SOURCE)[1:]:
            self.assertEqual(outcome(call), [TooManyStates, {}])

    def test_positions_of_the_best_are_counted(self):
        self.assertEqual(len(best_positions_by_hand(*EIGHTY_BEST)), 80)
        self.assertEqual(len(best_positions_by_hand(*MORE_BEST)), 81)
        begun = time.monotonic()
        table = best_table(*EIGHTY_BEST)
        self.assertIs(is_best_table(*EIGHTY_BEST, table), True)
        self.assertLess(time.monotonic() - begun, 20)
        self.assertTrue(is_table_by_hand(best_positions_by_hand(*EIGHTY_BEST), table))
        for call in self.calls_of_the_best(*MORE_BEST)[1:]:
            self.assertEqual(outcome(call), [TooManyStates, {}])
        self.assertEqual(type(expected_best(*MORE_BEST, 40)), tuple)

    def test_positions_of_a_mixture_are_counted_for_each_rule(self):
        alone = Rule([{kind: (0, 0) for kind in "abcd"}])
        self.assertEqual(len(rule_positions_by_hand(EIGHTY_SYSTEM, alone, EIGHTY_SOURCE)), 4)
        mixture = Mixture([(1, EIGHTY_RULE), (2, alone)])
        wanted = Fraction(*rule_average(EIGHTY_SYSTEM, EIGHTY_RULE, EIGHTY_SOURCE)) / 3
        wanted += 2 * Fraction(*rule_average(EIGHTY_SYSTEM, alone, EIGHTY_SOURCE)) / 3
        self.assertEqual(mixture_average(EIGHTY_SYSTEM, mixture, EIGHTY_SOURCE), told(wanted))
        for parts in ([(1, alone), (1, MORE_RULE)], [(1, MORE_RULE), (1, alone)]):
            self.assertEqual(outcome(lambda: mixture_average(MORE_SYSTEM, Mixture(parts), MORE_SOURCE)), [TooManyStates, {}])


class Passed(unittest.TestCase):
    def test_by_name(self):
        self.assertEqual(expected_cost(many=1, source=SOURCE, rule=RULE, system=TWO_MODES), (1, 2))
        self.assertEqual(expected_best(many=1, source=SOURCE, system=TWO_MODES), (1, 2))
        self.assertEqual(rule_average(source=SOURCE, rule=RULE, system=TWO_MODES), (5, 8))
        self.assertEqual(best_average(source=SOURCE, system=TWO_MODES), (3, 7))
        self.assertEqual(mixture_average(source=SOURCE, mixture=Mixture([(2, RULE)]), system=TWO_MODES), (5, 8))
        table = rule_table(source=SOURCE, rule=RULE, system=TWO_MODES)
        self.assertIs(is_rule_table(table=table, source=SOURCE, rule=RULE, system=TWO_MODES), True)
        table = best_table(source=SOURCE, system=TWO_MODES)
        self.assertIs(is_best_table(table=table, source=SOURCE, system=TWO_MODES), True)

    def test_arguments_are_not_changed(self):
        for value in odd_values() + [rule_table(TWO_MODES, RULE, SOURCE), best_table(TWO_MODES, SOURCE)]:
            kept = copy.deepcopy(value)
            is_rule_table(TWO_MODES, RULE, SOURCE, value)
            is_best_table(TWO_MODES, SOURCE, value)
            self.assertEqual(value, kept)

    def test_results_are_new(self):
        for call in (lambda: rule_table(TWO_MODES, RULE, SOURCE), lambda: best_table(TWO_MODES, SOURCE)):
            first = call()
            kept = dict(first)
            first.clear()
            self.assertEqual(call(), kept)

    def test_tables_that_are_changed_between_two_calls(self):
        table = rule_table(TWO_MODES, RULE, SOURCE)
        place, pair = list(table.items())[1]
        for _ in range(2):
            self.assertIs(is_rule_table(TWO_MODES, RULE, SOURCE, table), True)
            table[place] = (pair[0], (99, 1))
            self.assertIs(is_rule_table(TWO_MODES, RULE, SOURCE, table), False)
            table[place] = pair

    def test_partners_in_turns(self):
        other_system = System([[0, 0], [0, 0]], TWO_MODES.kinds())
        other_source = Source([{"q": (5, 1)}, {"q": (2, 1), "p": (1, 0)}])
        cases = [(system, rule, source) for system in (TWO_MODES, other_system) for rule in (RULE, PARTED)
                 for source in (SOURCE, other_source)]
        wanted = [(rule_table(*case), best_average(case[0], case[2]), expected_cost(*case, 5)) for case in cases]
        self.assertEqual(len({str(one) for one in wanted}), len(cases))
        for _ in range(2):
            self.assertEqual([(rule_table(*case), best_average(case[0], case[2]), expected_cost(*case, 5)) for case in cases], wanted)

    def test_modes_that_serve_nothing(self):
        rule = Rule([{"a": (0, 0), "b": (2, 0), "c": (2, 0)}])
        source = Source([{"a": (1, 0), "b": (1, 1)}, {"c": (1, 0)}])
        self.assertEqual(rule_average(IDLE_MODE, rule, source), told(rates_by_hand(rule_positions_by_hand(IDLE_MODE, rule, source))[0, 0, 0]))
        self.assertEqual(best_average(ONE_MODE, Source([{"a": (4, 1)}, {"a": (7, 0)}])), (3, 1))
        draw = Random(125)
        for system in (THREE_MODES, IDLE_MODE, FOUR_MODES):
            for many in (1, 2, 3):
                source = draw.choice([drawn_source, round_source])(draw, list(system.names), many)
                steps = best_positions_by_hand(system, source, 30)
                if steps is not None:
                    self.assertEqual(best_average(system, source), told(rates_by_hand(steps)[0, start_of(system)]))


if __name__ == "__main__":
    unittest.main()
