"""Points 15 and 7, what points 3 and 8 say of them, and the rules with needless states."""

import copy
import time
import unittest
from fractions import Fraction
from itertools import product
from random import Random

from helpers import ONE_MODE, THREE_MODES, TWO_MODES, all_rows, wrong_factors
from latewise.errors import BadFactor, TooManyRules, TooManyStates, Unfit
from latewise.factors import factor
from latewise.games import least_factor
from latewise.rules import Rule, check, modes_of
from latewise.smallest import reduced, shortfalls, smallest_rule
from latewise.systems import System
from reckoning import (
    able_modes, drawn_pairs, drawn_system, follow_loop, has_dear_loop, positions_by_hand, spots_by_hand, spread,
)

TWICE = Rule([{"q": (0, 1), "p": (0, 0)}, {"q": (1, 1), "p": (0, 0)}])
FREE = System([[0, 0], [0, 0]], {"a": [0, 1], "b": [1, 0]})
# Many positions, and more rules than are taken.
WIDE = System([[0, 3, 2, 4], [2, 0, 3, 4], [2, 2, 0, 4], [0, 3, 1, 0]], {"a": [3, 2, 0, 4], "b": [0, 4, 1, 4], "c": [2, 3, 0, 3]})
# Many positions, and few rules: all services but those of one kind can be in one mode only.
NARROW = System([[0, 0, 1, 4], [2, 0, 2, 0], [1, 3, 0, 0], [3, 3, 0, 0]], {"a": [4, 1, 2, 2], "b": [4, 1, None, 0]})
FACTORS = [(1, 1), (3, 2), (2, 1), (5, 2), (3, 1), (8, 1)]


def count_of_rules(system, many):
    """How many rules with so many states fit a system and have no other keys than its kinds."""
    count = 1
    for _ in range(many):
        for kind in system.names:
            count *= many * len(able_modes(system, kind))
    return count


def rules_by_hand(system, many):
    """All rules with so many states that fit a system and have no other keys than its kinds."""
    cells = [list(product(able_modes(system, kind), range(many))) for kind in system.names]
    states = [dict(zip(system.names, row)) for row in product(*cells)]
    return [Rule(list(one)) for one in product(states, repeat=many)]


def has_factor(system, rule, some_factor):
    """True if the rule has the factor: no loop of its spots is dearer."""
    steps = spots_by_hand(system, rule)
    return not has_dear_loop(steps, lambda step: some_factor[1] * step[2] - some_factor[0] * step[3])


def drawn_systems(most=60, positions=14):
    """Drawn systems of each size, with so few rules and positions that all can be tried out."""
    draw = Random(31)
    for modes, kinds in product(range(1, 5), range(1, 5)):
        found = 0
        for _ in range(200):
            system = drawn_system(draw, modes, kinds, draw.choice([2, 4]))
            if count_of_rules(system, 1) <= most and positions_by_hand(system, positions) is not None and found < 3:
                found += 1
                yield system


def systems_for_two_states():
    """Systems with a choice of modes, and so few rules with two states that all of them can be tried out."""
    draw = Random(38)
    found = [TWO_MODES, FREE]
    while len(found) < 12:
        system = drawn_system(draw, draw.choice([2, 3]), draw.choice([1, 2]), 4)
        if 16 < count_of_rules(system, 2) <= 256 and positions_by_hand(system, 10) is not None:
            found.append(system)
    return found


def fitting(draw_from):
    """Drawn systems and rules, these with doubled states, keys that mean nothing, or states that are never reached."""
    draw = Random(32)
    for system, rule in draw_from:
        yield system, rule
        states = [{**state, "zz": (draw.randrange(4), draw.randrange(len(rule.states())))} for state in rule.states()]
        yield system, Rule(states)
        if len(states) <= 4:
            many = len(states)
            yield system, Rule([
                {kind: (mode, following + many * draw.randrange(2)) for kind, (mode, following) in state.items()}
                for state in states * 2
            ])


class SmallestRules(unittest.TestCase):
    def test_all_rules_with_one_state(self):
        seen = {}
        for system in drawn_systems():
            rules = rules_by_hand(system, 1)
            for some_factor in FACTORS:
                having = [rule for rule in rules if has_factor(system, rule, some_factor)]
                told = smallest_rule(system, some_factor, 1)
                seen[bool(having)] = True
                self.assertTrue(told in having if having else told is None)
        self.assertEqual(len(seen), 2)

    def test_all_rules_with_two_states(self):
        seen = {}
        for system in systems_for_two_states():
            single, double = rules_by_hand(system, 1), rules_by_hand(system, 2)
            for some_factor in FACTORS[:3]:
                told = smallest_rule(system, some_factor, 2)
                having = [rule for rule in single if has_factor(system, rule, some_factor)]
                having = having or [rule for rule in double if has_factor(system, rule, some_factor)]
                self.assertTrue(told in having if having else told is None)
                seen[len(told.states()) if told else None] = True
        self.assertEqual(len(seen), 3)

    def test_two_states_are_taken_where_one_does_not_do(self):
        self.assertIsNone(smallest_rule(TWO_MODES, (2, 1), 1))
        told = smallest_rule(TWO_MODES, (2, 1), 2)
        self.assertEqual(len(told.states()), 2)
        self.assertTrue(has_factor(TWO_MODES, told, (2, 1)))
        self.assertIsNone(smallest_rule(TWO_MODES, (3, 2), 2))

    def test_one_state_is_taken_where_it_does(self):
        for most in (1, 2):
            self.assertEqual(smallest_rule(TWO_MODES, (3, 1), most), Rule([{"q": (1, 0), "p": (0, 0)}]))
            self.assertEqual(smallest_rule(ONE_MODE, (1, 1), most), Rule([{"a": (0, 0)}]))
            self.assertEqual(smallest_rule(FREE, (1, 1), most), Rule([{"a": (0, 0), "b": (1, 0)}]))

    def test_keys_are_the_kinds(self):
        for system in drawn_systems():
            told = smallest_rule(system, (64, 1), 1)
            if told is not None:
                self.assertEqual(sorted(told.states()[0]), list(system.names))
                self.assertIsNone(check(system, told))

    def test_no_rule_has_less_than_the_system(self):
        for system in drawn_systems():
            least = least_factor(system)
            for some_factor in FACTORS:
                if least is None or Fraction(*some_factor) < Fraction(*least):
                    self.assertIsNone(smallest_rule(system, some_factor, 1))

    def test_huge_factors(self):
        for some_factor in ((10 ** 3000 + 1, 10 ** 3000), (3 * 10 ** 3000 - 1, 10 ** 3000), (10 ** 3000, 1)):
            told = smallest_rule(TWO_MODES, some_factor, 1)
            self.assertEqual(told is None, some_factor[0] < 3 * some_factor[1])


class Shortfalls(unittest.TestCase):
    def assert_right(self, system, some_factor, many):
        told = shortfalls(system, some_factor, many)
        rules = rules_by_hand(system, many)
        if any(has_factor(system, rule, some_factor) for rule in rules):
            self.assertIsNone(told)
            return True
        self.assertIs(type(told), list)
        self.assertEqual(len(told), len(rules))
        for pair in told:
            self.assertEqual([type(pair), len(pair), type(pair[0])], [tuple, 2, Rule])
            self.assertEqual([type(pair[1])] + [type(row) for row in pair[1]], [tuple, list, list])
            paid, grown = follow_loop(system, *pair)
            self.assertGreater(some_factor[1] * paid, some_factor[0] * grown)
        self.assertTrue(all(any(rule == other for other, _ in told) for rule in rules))
        return False

    def test_one_state(self):
        seen = {self.assert_right(system, one, 1): True for system in drawn_systems(30, 10) for one in FACTORS[::2]}
        self.assertEqual(len(seen), 2)

    def test_two_states(self):
        seen = {}
        for system in systems_for_two_states():
            for some_factor in ((1, 1), (3, 2)):
                seen[self.assert_right(system, some_factor, 2)] = True
        self.assertEqual(len(seen), 2)

    def test_by_hand(self):
        self.assertIsNone(shortfalls(TWO_MODES, (3, 1), 1))
        self.assertEqual(len(shortfalls(TWO_MODES, (2, 1), 1)), 4)
        self.assertIsNone(shortfalls(TWO_MODES, (2, 1), 2))
        self.assert_right(TWO_MODES, (3, 2), 2)

    def test_all_are_new(self):
        told = shortfalls(TWO_MODES, (2, 1), 1)
        kept = [(rule.states(), copy.deepcopy(rows)) for rule, rows in told]
        self.assertEqual(len({id(row) for _, rows in told for row in rows}), 2 * len(told))
        for _, rows in told:
            for row in rows:
                row.append("z")
        told.clear()
        self.assertEqual([(rule.states(), rows) for rule, rows in shortfalls(TWO_MODES, (2, 1), 1)], kept)


class Errors(unittest.TestCase):
    def refuses(self, error, system, some_factor, many):
        for call in (smallest_rule, shortfalls):
            with self.assertRaises(error):
                call(system, some_factor, many)

    def test_no_factor(self):
        for value in wrong_factors():
            self.refuses(BadFactor, TWO_MODES, value, 1)
            self.refuses(BadFactor, WIDE, value, 2)

    def test_too_many_rules(self):
        self.assertEqual([count_of_rules(WIDE, 1), count_of_rules(WIDE, 2)], [64, 262144])
        self.refuses(TooManyRules, WIDE, (2, 1), 2)
        for many, system in self.edges():
            if many > 300:
                self.refuses(TooManyRules, system, (2, 1), 2)
            else:
                smallest_rule(system, (2, 1), 2)
                shortfalls(system, (2, 1), 2)

    def edges(self):
        """The counts next to 300 that there are for two states, with systems of two, three and four kinds."""
        services = {"a": [0, 1, None], "b": [1, 0, None], "c": [0, None, None], "d": [None, 0, None]}
        switches = [[0, 1, 1], [1, 0, 1], [1, 1, 0]]
        found = []
        for names, last, count in (("ab", None, 256), ("abc", None, 1024), ("acd", None, 256), ("ab", 2, 576)):
            kinds = {name: list(services[name]) for name in names}
            if last is not None:
                kinds["b"][2] = last
            system = System(switches, kinds)
            self.assertEqual(count_of_rules(system, 2), count)
            found.append((count, system))
        return found

    def test_the_count_is_that_of_just_most_states(self):
        system = System([[0, 1], [1, 0]], {"a": [0, 1], "b": [1, 0], "c": [0, 2]})
        self.assertEqual([count_of_rules(system, 1), count_of_rules(system, 2)], [8, 4096])
        self.refuses(TooManyRules, system, (64, 1), 2)
        self.assertEqual(len(smallest_rule(system, (64, 1), 1).states()), 1)

    def test_too_many_positions_behind_the_others(self):
        self.assertGreater(len(positions_by_hand(WIDE)), 60)
        self.assertGreater(len(positions_by_hand(NARROW)), 60)
        self.refuses(TooManyStates, WIDE, (2, 1), 1)
        self.refuses(TooManyStates, NARROW, (2, 1), 1)
        self.refuses(TooManyRules, NARROW, (2, 1), 2)
        self.refuses(BadFactor, NARROW, (2, 2), 1)

    def test_four_modes_and_four_kinds_and_how_long_they_take(self):
        system = System([[0, 1, 2, 1], [1, 0, 1, 2], [2, 1, 0, 1], [1, 2, 1, 0]], {
            "a": [0, 0, 0, 0], "b": [0, 0, 1, 0], "c": [1, 1, 1, 1], "d": [2, 2, 2, 2],
        })
        self.assertEqual(count_of_rules(system, 1), 256)
        begun = time.monotonic()
        self.assertIsNotNone(smallest_rule(system, (64, 1), 1))
        told = shortfalls(system, (1, 1), 1)
        self.assertTrue(told is None or len(told) == 256)
        self.assertLess(time.monotonic() - begun, 30)


class Reduced(unittest.TestCase):
    def same_for_all_rows(self, system, first, second):
        """True if two rules choose the same modes for all rows, by all pairs of their states that rows reach."""
        one, other = first.states(), second.states()
        pairs = spread((0, 0), lambda pair: [
            (kind, (one[pair[0]][kind][1], other[pair[1]][kind][1])) for kind in system.names
        ])
        return all(one[k][kind][0] == other[j][kind][0] for k, j in pairs for kind in system.names)

    def fewest_states(self, system, rule):
        """How many states, of those that rows reach, choose different modes for some row of at most so many requests."""
        states = rule.states()
        reached = spread(0, lambda state: [(kind, states[state][kind][1]) for kind in system.names])
        told = {state: () for state in range(len(states))}
        for _ in states:
            told = {
                state: tuple((states[state][kind][0], told[states[state][kind][1]]) for kind in system.names)
                for state in told
            }
        return len({told[state] for state in reached})

    def test_of_each_size(self):
        seen = {}
        for system, rule in fitting(drawn_pairs(33, 6)):
            told = reduced(system, rule)
            self.assertIs(type(told), Rule)
            self.assertTrue(self.same_for_all_rows(system, rule, told))
            self.assertEqual(len(told.states()), self.fewest_states(system, rule))
            self.assertEqual(sorted(told.states()[0]), list(system.names))
            seen[len(told.states())] = True
        self.assertEqual(sorted(seen), list(range(1, 9)))

    def test_all_rows_up_to_a_length(self):
        for system, rule in fitting(drawn_pairs(34, 3, sizes=[(2, 2), (3, 2), (4, 3)], most=4)):
            told = reduced(system, rule)
            for row in all_rows(system, 5):
                self.assertEqual(modes_of(system, told, row), modes_of(system, rule, row))

    def test_small_rules_are_not_smaller_yet(self):
        draw = Random(35)
        for system, rule in drawn_pairs(36, 4, sizes=[(2, 1), (2, 2), (3, 1)], most=3):
            many = len(reduced(system, rule).states())
            if many == 2:
                for other in rules_by_hand(system, 1):
                    self.assertFalse(self.same_for_all_rows(system, rule, other))
            elif many == 3 and count_of_rules(system, 2) <= 4096:
                others = rules_by_hand(system, 2)
                for other in draw.sample(others, min(200, len(others))):
                    self.assertFalse(self.same_for_all_rows(system, rule, other))

    def test_by_hand(self):
        # State 2 does as state 1, state 3 is never reached, and "z" is no kind.
        rule = Rule([
            {"q": (0, 2), "p": (0, 0), "z": (1, 3)},
            {"q": (1, 1), "p": (0, 0), "z": (1, 3)},
            {"q": (1, 1), "p": (0, 0), "z": (2, 3)},
            {"q": (1, 3), "p": (1, 0), "z": (3, 0)},
        ])
        told = reduced(TWO_MODES, rule)
        self.assertEqual(len(told.states()), 2)
        self.assertTrue(self.same_for_all_rows(TWO_MODES, told, TWICE))
        self.assertEqual(factor(TWO_MODES, told), factor(TWO_MODES, rule))
        ring = Rule([{"a": (0, (k + 1) % 8)} for k in range(8)])
        self.assertEqual(reduced(ONE_MODE, ring), Rule([{"a": (0, 0)}]))

    def test_eight_states_that_all_differ(self):
        system = System([[0, 0], [0, 0]], {"a": [0, 0]})
        rule = Rule([{"a": (0, (k + 1) % 8)} for k in range(7)] + [{"a": (1, 0)}])
        self.assertEqual(len(reduced(system, rule).states()), 8)
        self.assertTrue(self.same_for_all_rows(system, rule, reduced(system, rule)))

    def test_the_same_one_each_time(self):
        for system, rule in fitting(drawn_pairs(37, 2)):
            told = reduced(system, rule)
            turned = System(system.switches(), dict(reversed(list(system.kinds().items()))))
            again = Rule([dict(reversed(list(state.items()))) for state in rule.states()])
            self.assertEqual(reduced(system, rule), told)
            self.assertEqual(reduced(turned, again), told)
            self.assertEqual(reduced(system, told), reduced(turned, told))

    def test_unfit(self):
        for rule, place, kind in (
            (Rule([{"q": (0, 1), "p": (0, 0)}, {"q": (2, 1), "p": (0, 0)}]), 1, "q"),
            (Rule([{"q": (0, 0), "p": (0, 0)}, {"q": (0, 0), "p": (3, 0)}]), 1, "p"),
            (Rule([{"q": (0, 0), "z": (0, 0)}]), 0, "p"),
        ):
            with self.assertRaises(Unfit) as caught:
                reduced(TWO_MODES, rule)
            self.assertEqual((caught.exception.place, caught.exception.kind), (place, kind))
        with self.assertRaises(Unfit):
            reduced(THREE_MODES, Rule([{"z": (0, 0), "x": (1, 0)}]))


class Passed(unittest.TestCase):
    def test_by_name(self):
        self.assertEqual(smallest_rule(most=1, some_factor=(3, 1), system=TWO_MODES), Rule([{"q": (1, 0), "p": (0, 0)}]))
        self.assertIsNone(shortfalls(many=1, some_factor=(3, 1), system=TWO_MODES))
        self.assertEqual(reduced(rule=TWICE, system=TWO_MODES), reduced(TWO_MODES, TWICE))

    def test_arguments_are_not_changed(self):
        system, rule = System(TWO_MODES.switches(), TWO_MODES.kinds()), Rule(TWICE.states())
        smallest_rule(system, (2, 1), 2)
        shortfalls(system, (3, 2), 2)
        reduced(system, rule)
        for value in wrong_factors():
            kept = copy.deepcopy(value)
            with self.assertRaises(BadFactor):
                smallest_rule(system, value, 1)
            self.assertEqual(value, kept)
        self.assertEqual([system, rule], [TWO_MODES, TWICE])

    def test_one_rule_with_several_systems_in_turns(self):
        other = System([[0, 0], [0, 0]], {"q": [0, 0]})
        told = [reduced(TWO_MODES, TWICE), reduced(other, TWICE)]
        self.assertEqual([len(one.states()) for one in told], [2, 2])
        self.assertEqual([sorted(one.states()[0]) for one in told], [["p", "q"], ["q"]])
        for _ in range(2):
            self.assertEqual([reduced(TWO_MODES, TWICE), reduced(other, TWICE)], told)


if __name__ == "__main__":
    unittest.main()
