"""Point 16, and what points 3 and 18 say of it."""

import copy
import time
import unittest
from fractions import Fraction
from itertools import product
from random import Random

from helpers import FOUR_MODES, IDLE_MODE, ONE_MODE, SYSTEMS, THREE_MODES, TWO_MODES, odd_values
from joint_reckoning import drawn_follows, following_by_hand, is_least_of_all_ways, known_by_hand
from latewise.duels import settle
from latewise.errors import BadFollows, TooManyStates, Unfit
from latewise.factors import factor
from latewise.games import least_factor, moves_of
from latewise.known import known_factor, known_graph, rule_factor
from latewise.rules import Rule
from latewise.systems import System
from reckoning import (
    all_loops, count_of_loops_is_small, drawn_pairs, drawn_rule, drawn_system, has_dear_loop, is_lowest,
    least_of_loops, spread, start_of,
)

RING = System([[0, 0, 0], [0, 0, 1], [0, 1, 0]], {"a": [1, 0, 0], "b": [1, 0, 1], "c": [1, 1, 0], "e": [0, 1, 1]})
RING_FOLLOWS = {"a": ["b", "c"], "b": ["e"], "c": ["e"], "e": ["a"]}
RULE = Rule([{"q": (0, 1), "p": (0, 0)}, {"q": (1, 1), "p": (0, 0)}])
BOTH = {"p": ["p", "q"], "q": ["p", "q"]}

# Systems, how many requests are known, follows, and how many tuples there are.
COUNTED = [
    (System([[0, 2, 0], [4, 0, 3], [3, 2, 0]],
            {"a": [0, 0, 2], "abcdefgh": [1, 1, 4], "bb": [0, 2, None], "ccc": [2, 1, 1]}), 0, None, 150),
    (System([[0, 4, 3], [0, 0, 0], [1, 3, 0]], {"a": [0, 1, 2], "bb": [1, 4, 0]}), 2, None, 151),
    (System([[0, 2, 3], [3, 0, 1], [4, 2, 0]], {"a": [1, None, 0], "bb": [3, 1, 1], "ccc": [None, 0, None]}), 1,
     {"a": ["bb", "ccc"], "bb": ["a", "bb", "ccc"], "ccc": ["bb"]}, 150),
    (System([[0, 4, 4], [3, 0, 3], [3, 0, 0]], {"a": [0, 0, 0], "bb": [2, 1, 0], "ccc": [0, 0, 2]}), 1,
     {"a": ["ccc"], "bb": ["bb", "ccc"], "ccc": ["bb"]}, 151),
    (System([[0, 1, 3], [4, 0, 3], [1, 0, 0]], {"a": [2, 1, 1], "bb": [0, 0, 4]}), 2,
     {"a": ["a", "bb"], "bb": ["a"]}, 150),
    (System([[0, 3, 2], [4, 0, 0], [1, 1, 0]], {"a": [4, 2, 4], "bb": [4, 4, 1]}), 2,
     {"a": ["a", "bb"], "bb": ["bb", "a"]}, 151),
]
THOUSAND = System(
    [[0, 4, 3, 2], [2, 0, 3, 2], [3, 2, 0, 4], [4, 3, 4, 0]],
    {"a": [0, 1, 3, 1], "b": [2, 3, 0, 0], "c": [1, 3, 1, 4], "d": [3, 1, 3, 3]},
)
THOUSAND_RULE = Rule([
    {"a": (0, 0), "b": (0, 2), "c": (0, 1), "d": (3, 3)}, {"a": (2, 4), "b": (2, 1), "c": (2, 3), "d": (0, 1)},
    {"a": (0, 3), "b": (3, 2), "c": (3, 2), "d": (1, 3)}, {"a": (1, 3), "b": (1, 1), "c": (1, 0), "d": (3, 3)},
    {"a": (0, 4), "b": (1, 2), "c": (1, 1), "d": (2, 2)},
])
THOUSAND_FOLLOWS = {"a": ["b", "c", "d", "a"], "b": ["a", "c", "b"], "c": ["b", "d"], "d": ["a", "d", "b", "c"]}
ONE_MORE = System(
    [[0, 0, 2, 4], [1, 0, 1, 3], [4, 3, 0, 4], [4, 4, 4, 0]],
    {"a": [1, 2, 2, 2], "b": [3, 1, 1, 2], "c": [3, 4, 2, 0]},
)
ONE_MORE_RULE = Rule([
    {"a": (2, 6), "b": (0, 2), "c": (0, 5)}, {"a": (1, 5), "b": (1, 1), "c": (3, 6)},
    {"a": (1, 3), "b": (2, 4), "c": (0, 2)}, {"a": (3, 6), "b": (3, 7), "c": (1, 5)},
    {"a": (2, 6), "b": (3, 6), "c": (2, 0)}, {"a": (0, 5), "b": (1, 1), "c": (2, 5)},
    {"a": (0, 2), "b": (2, 2), "c": (1, 3)}, {"a": (3, 1), "b": (0, 3), "c": (2, 5)},
])
ONE_MORE_FOLLOWS = {"a": ["b", "c"], "b": ["b", "a", "c"], "c": ["c", "a", "b"]}


def at_most(first, second):
    """True if the first factor is at most the second one, which may be None as the first one may."""
    return second is None or (first is not None and Fraction(*first) <= Fraction(*second))


def dull_system(draw, modes, kinds):
    """A system where switches cost more than services."""
    switches = [[0 if k == j else draw.choice([1, 2]) for j in range(modes)] for k in range(modes)]
    return System(switches, {name: [draw.choice([0, 1]) for _ in range(modes)] for name in "abcd"[:kinds]})


def little_system(draw, modes, kinds):
    """A system of little costs, many of which have loops without growth."""
    switches = [[0 if k == j else draw.choice([0, 0, 1, 2]) for j in range(modes)] for k in range(modes)]
    return System(switches, {name: [draw.choice([0, 0, 1]) for _ in range(modes)] for name in "abcd"[:kinds]})


class KnownFactors(unittest.TestCase):
    def test_all_ways_tried_out(self):
        draw = Random(51)
        seen = {}
        for _ in range(500):
            make = draw.choice([little_system, drawn_system])
            system = make(draw, draw.choice([1, 2, 2, 3]), draw.choice([1, 2, 2, 3]))
            known = draw.randint(0, 2)
            follows = draw.choice([None, drawn_follows(draw, system), drawn_follows(draw, system)])
            steps = known_by_hand(system, known, follows, 30)
            if steps is not None:
                told = known_factor(system, known, follows)
                right = is_least_of_all_ways(steps, (0, start_of(system), (), None), told)
                self.assertIsNot(right, False)
                if right:
                    seen[known, told == (1, 1)] = True
        self.assertGreaterEqual(len(seen), 4, seen)

    def test_some_choices_have_it_and_some_requests_hold_it(self):
        draw = Random(64)
        seen = {}
        for _ in range(400):
            make = draw.choice([little_system, dull_system, drawn_system])
            system = make(draw, draw.choice([2, 2, 3, 4]), draw.choice([1, 2, 3, 4]))
            known = draw.randint(0, 2)
            follows = draw.choice([None, drawn_follows(draw, system), drawn_follows(draw, system)])
            steps = known_by_hand(system, known, follows, 150)
            if steps is not None:
                graph = known_graph(system, known, follows)
                some_factor, answers, calls = settle(moves_of(graph))
                self.assertEqual(known_factor(system, known, follows), some_factor)
                self.judge(steps, graph.places, some_factor, answers, calls)
                key = known, None if some_factor is None else some_factor == (1, 1)
                seen[key] = seen.get(key, 0) + 1
        self.assertGreaterEqual(len(seen), 6, seen)

    def judge(self, steps, places, some_factor, answers, calls):
        """That the answers have the factor, and the calls hold it, by loops of the tuples reckoned by hand."""
        numbers = {place: number for number, place in enumerate(places)}
        first = places[0]
        if some_factor is not None:
            play = spread(first, lambda place: [
                step for step in steps[place] if answers[numbers[place]][step[0][0]] == step[0][1]
            ])
            self.assertTrue(all({step[0][0] for step in play[place]} == {step[0][0] for step in steps[place]}
                                for place in play))
            self.assertFalse(has_dear_loop(play, lambda step: some_factor[1] * step[2] - some_factor[0] * step[3]))
        if some_factor != (1, 1):
            play = spread(first, lambda place: [
                step for step in steps[place] if calls[numbers[place]] == step[0][0]
            ])
            self.assertTrue(all(play.values()))
            # No loop is free, and none has less than the factor; without a factor, none has a growth.
            self.assertFalse(has_dear_loop(play, lambda step: 1 - (len(play) + 1) * step[2]))
            top, bottom = some_factor or (1, 0)
            self.assertFalse(has_dear_loop(play, lambda step: top * step[3] - bottom * step[2]))

    def test_none_known_and_all_may_follow(self):
        for system, _ in drawn_pairs(52, 6):
            try:
                least = least_factor(system)
            except TooManyStates:
                continue
            for follows in (None, {kind: list(system.names) for kind in system.names}):
                try:
                    self.assertEqual(known_factor(system, 0, follows), least)
                except TooManyStates:
                    self.assertIsNotNone(follows)

    def test_knowing_more_and_letting_fewer_follow_is_never_dearer(self):
        draw = Random(53)
        seen = {}
        for modes, kinds in product(range(1, 5), range(1, 5)):
            for _ in range(8):
                system = draw.choice([little_system, drawn_system])(draw, modes, kinds)
                follows = drawn_follows(draw, system)
                fewer = {kind: draw.sample(some, draw.randint(1, len(some))) for kind, some in follows.items()}
                told = {}
                for known, some in product(range(3), (0, 1, 2)):
                    try:
                        told[known, some] = known_factor(system, known, (None, follows, fewer)[some])
                    except TooManyStates:
                        pass
                for known, some in told:
                    one = told[known, some]
                    self.assertTrue(one is None or is_lowest(one))
                    for more, some_too in ((known + 1, some), (known, some + 1)):
                        if (more, some_too) in told:
                            self.assertTrue(at_most(told[more, some_too], one))
                            seen[told[more, some_too] == one] = True
        self.assertEqual(len(seen), 2)

    def test_by_hand(self):
        self.assertEqual([known_factor(RING, known, RING_FOLLOWS) for known in (0, 1, 2)], [None, (1, 1), (1, 1)])
        self.assertEqual([known_factor(TWO_MODES, 0, follows) for follows in (None, BOTH)], [(2, 1), (2, 1)])
        self.assertEqual(known_factor(ONE_MODE, 2, {"a": ["a"]}), (1, 1))
        # Where requests take turns, the last one tells all that come.
        self.assertEqual(known_factor(TWO_MODES, 0, {"p": ["q"], "q": ["p"]}), (1, 1))
        # Both kinds can be served for free in the last mode, so that only the way there costs something.
        self.assertEqual([known_factor(THREE_MODES, known, None) for known in (0, 1)], [(1, 1), (1, 1)])

    def test_how_many_are_known_tells(self):
        # "b" is served in the mode 0 only, "c" in the mode 3 only, and "e" and "f" in both others. Whoever is in the
        # mode 1 goes back for free, and whoever is in the mode 2 goes on for free; it is too late to choose at "f".
        system = System(
            [[0, 0, 0, 4], [0, 0, 4, 4], [4, 4, 0, 0], [0, 4, 4, 0]],
            {"b": [0, None, None, None], "e": [None, 0, 0, None], "f": [None, 0, 0, None], "c": [None, None, None, 0]},
        )
        follows = {"b": ["e"], "e": ["f"], "f": ["b", "c"], "c": ["b"]}
        self.assertEqual([known_factor(system, known, follows) for known in (0, 1, 2)], [None, None, (1, 1)])
        follows = {"b": ["e"], "e": ["b", "c"], "f": ["f"], "c": ["b"]}
        self.assertEqual([known_factor(system, known, follows) for known in (0, 1, 2)], [None, (1, 1), (1, 1)])
        follows = {"b": ["e"], "e": ["f"], "f": ["f", "b", "c"], "c": ["b"]}
        self.assertEqual([known_factor(system, known, follows) for known in (0, 1, 2)], [None, None, None])

    def test_costs_multiplied(self):
        draw = Random(54)
        for _ in range(25):
            system = little_system(draw, draw.randint(2, 3), draw.randint(2, 3))
            twice = System([[2 * cost for cost in costs] for costs in system.switches()],
                           {kind: [2 * cost for cost in costs] for kind, costs in system.kinds().items()})
            follows, known = drawn_follows(draw, system), draw.randint(0, 2)
            if known_by_hand(system, known, follows, 150):
                self.assertEqual(known_factor(system, known, follows), known_factor(twice, known, follows))


class RuleFactors(unittest.TestCase):
    def test_all_loops_tried_out(self):
        draw = Random(55)
        seen = {}
        sizes = [(1, 2), (2, 1), (2, 2), (2, 3), (3, 2), (4, 2)]
        for system, rule in drawn_pairs(56, 25, sizes=sizes, most=3):
            follows = draw.choice([None, drawn_follows(draw, system), drawn_follows(draw, system)])
            steps = following_by_hand(system, rule, follows, 60)
            if steps is not None and count_of_loops_is_small(steps):
                least = least_of_loops(all_loops(steps))
                self.assertEqual(rule_factor(system, rule, follows), least)
                seen[None if least is None else least == (1, 1)] = True
        self.assertEqual(len(seen), 3)

    def test_dearest_walks_of_each_size(self):
        draw = Random(57)
        for system, rule in drawn_pairs(58, 6):
            follows = drawn_follows(draw, system)
            steps = following_by_hand(system, rule, follows, 100)
            if steps is None:
                continue
            least = rule_factor(system, rule, follows)
            top, bottom = least or (10 ** 6, 1)
            self.assertIs(has_dear_loop(steps, lambda step: bottom * step[2] - top * step[3]), least is None)
            if least not in (None, (1, 1)):
                below = Fraction(*least) - Fraction(1, 10 ** 6)
                self.assertTrue(has_dear_loop(
                    steps, lambda step: below.denominator * step[2] - below.numerator * step[3]))

    def test_all_may_follow(self):
        for system, rule in drawn_pairs(59, 6, most=3):
            for follows in (None, {kind: list(reversed(system.names)) for kind in system.names}):
                try:
                    self.assertEqual(rule_factor(system, rule, follows), factor(system, rule))
                except TooManyStates:
                    pass

    def test_at_least_the_factor_of_the_system_and_at_most_that_on_all_rows(self):
        draw = Random(60)
        for system, rule in drawn_pairs(61, 4, most=3):
            follows = drawn_follows(draw, system)
            try:
                told = rule_factor(system, rule, follows)
                self.assertTrue(at_most(told, factor(system, rule)))
                self.assertTrue(at_most(known_factor(system, 0, follows), told))
            except TooManyStates:
                pass

    def test_by_hand(self):
        self.assertEqual(rule_factor(TWO_MODES, RULE, None), (2, 1))
        # To and fro: at each "q" the rule pays 1, as the best does.
        self.assertEqual(rule_factor(TWO_MODES, RULE, {"p": ["q"], "q": ["p"]}), (1, 1))
        self.assertEqual(rule_factor(TWO_MODES, RULE, {"p": ["q", "p"], "q": ["q", "p"]}), (2, 1))
        self.assertEqual(rule_factor(TWO_MODES, Rule([{"q": (0, 0), "p": (0, 0)}]), {"p": ["p"], "q": ["q"]}), None)
        self.assertEqual(rule_factor(TWO_MODES, Rule([{"q": (0, 0), "p": (0, 0)}]), {"p": ["p"], "q": ["p"]}), (1, 1))

    def test_states_and_keys_that_mean_nothing(self):
        wide = Rule([{"q": (0, 1), "p": (0, 0), "z": (3, 2)}, {"q": (1, 1), "p": (0, 0), "z": (2, 2)},
                     {"q": (1, 0), "p": (1, 0), "z": (3, 1)}])
        self.assertEqual(rule_factor(TWO_MODES, wide, BOTH), (2, 1))


class Errors(unittest.TestCase):
    def wrong_follows(self):
        """Values that are no follows of the system of two modes."""
        wrong = [
            {"p": ["q"]}, {"q": ["q"]}, {"p": ["q"], "q": ["p"], "z": ["p"]}, {"p": ["q"], "q": ["p"], None: ["p"]},
            {"p": ["q"], "z": ["p"]}, {"p": ["q"], "q": []}, {"p": ["q", "q"], "q": ["p"]},
            {"p": ["q", "z"], "q": ["p"]}, {"p": ["q", "p", "q"], "q": ["p"]}, {"p": ("q",), "q": ["p"]},
            {"p": "q", "q": "p"}, {"p": {"q": "p"}, "q": ["p"]}, [["p", ["q"]], ["q", ["p"]]], ["p", "q"],
            {"p": ["q", None], "q": ["p"]}, {"p": ["q", ["p"]], "q": ["p"]}, {"p": ["Q"], "q": ["p"]},
            {0: ["q"], 1: ["p"]}, {"p": None, "q": None}, {"p": ["q"], "q": [0]}, {"p": ["q"], "q": [True]},
            {"p": [("p", "q")], "q": ["q"]}, {("p",): ["q"], "q": ["p"]}, "pq", 7, RULE, TWO_MODES,
        ]
        for value in odd_values():
            wrong += [{"p": value, "q": ["p"]}, {"p": ["p"], "q": value}]
            if value not in ("p", "q"):
                wrong += [{"p": [value], "q": ["p"]}, {"p": ["p"], "q": ["q", value]}]
        return [value for value in odd_values() if value is not None] + wrong

    def test_no_follows(self):
        for value in self.wrong_follows():
            for call in (
                lambda: known_factor(TWO_MODES, 0, value), lambda: known_factor(TWO_MODES, 2, value),
                lambda: rule_factor(TWO_MODES, RULE, value),
            ):
                with self.assertRaises(BadFollows):
                    call()

    def test_bad_follows_ahead_of_too_many(self):
        for value in ({}, 0, [], {"a": ["a"]}):
            with self.assertRaises(BadFollows):
                known_factor(FOUR_MODES, 2, value)
            with self.assertRaises(BadFollows):
                rule_factor(ONE_MORE, ONE_MORE_RULE, value)
        with self.assertRaises(TooManyStates):
            known_factor(FOUR_MODES, 2, None)

    def test_the_tuples_are_counted(self):
        for system, known, follows, many in COUNTED:
            steps = known_by_hand(system, known, follows)
            self.assertEqual(len(steps), many)
            begun = time.monotonic()
            if many > 150:
                with self.assertRaises(TooManyStates):
                    known_factor(system, known, follows)
            else:
                self.assertIsNot(known_factor(system, known, follows), 0)
            self.assertLess(time.monotonic() - begun, 20)

    def test_drawn_ones_are_counted(self):
        draw = Random(62)
        seen = {}
        for _ in range(150):
            system = drawn_system(draw, draw.randint(1, 4), draw.randint(1, 4))
            known = draw.randint(0, 2)
            follows = draw.choice([None, drawn_follows(draw, system)])
            many = known_by_hand(system, known, follows, 150)
            seen[many is None] = True
            if many is None:
                with self.assertRaises(TooManyStates):
                    known_factor(system, known, follows)
            else:
                known_factor(system, known, follows)
        self.assertEqual(len(seen), 2)

    def test_a_thousand_spots_and_one_more(self):
        for system, rule, follows, many in (
            (THOUSAND, THOUSAND_RULE, THOUSAND_FOLLOWS, 1000), (ONE_MORE, ONE_MORE_RULE, ONE_MORE_FOLLOWS, 1001),
        ):
            self.assertEqual(len(following_by_hand(system, rule, follows)), many)
            begun = time.monotonic()
            if many > 1000:
                with self.assertRaises(TooManyStates):
                    rule_factor(system, rule, follows)
            else:
                rule_factor(system, rule, follows)
            self.assertLess(time.monotonic() - begun, 20)

    def test_unfit_ahead_of_all(self):
        unfit = Rule([{"q": (0, 0), "p": (0, 0)}, {"q": (2, 1), "p": (0, 0)}])
        for value in (None, BOTH, {}, 0):
            with self.assertRaises(Unfit) as caught:
                rule_factor(TWO_MODES, unfit, value)
            self.assertEqual((caught.exception.place, caught.exception.kind), (1, "q"))
        states = ONE_MORE_RULE.states()
        for state in states:
            del state["b"]
        for value in (None, ONE_MORE_FOLLOWS, 0):
            with self.assertRaises(Unfit) as caught:
                rule_factor(ONE_MORE, Rule(states), value)
            self.assertEqual((caught.exception.place, caught.exception.kind), (0, "b"))


class Passed(unittest.TestCase):
    def test_by_name(self):
        self.assertEqual(known_factor(follows=RING_FOLLOWS, known=1, system=RING), (1, 1))
        self.assertEqual(rule_factor(follows=BOTH, rule=RULE, system=TWO_MODES), (2, 1))

    def test_arguments_are_not_changed(self):
        for value in odd_values() + [BOTH, {"q": ["p"], "p": ["q"]}]:
            kept = copy.deepcopy(value)
            for call in (lambda: known_factor(TWO_MODES, 1, value), lambda: rule_factor(TWO_MODES, RULE, value)):
                try:
                    call()
                except BadFollows:
                    pass
                self.assertEqual(value, kept)

    def test_follows_that_are_changed_between_two_calls(self):
        follows = {"a": ["a", "b", "c", "e"], "b": ["e"], "c": ["e"], "e": ["a"]}
        for _ in range(2):
            self.assertEqual(known_factor(RING, 1, RING_FOLLOWS), (1, 1))
            first = known_factor(RING, 0, follows), rule_factor(RING, Rule([{k: (1, 0) for k in "abce"}]), follows)
            follows["e"] = ["e"]
            second = known_factor(RING, 0, follows), rule_factor(RING, Rule([{k: (1, 0) for k in "abce"}]), follows)
            follows["e"] = ["a"]
        self.assertNotEqual(first, second)

    def test_the_order_of_keys_and_kinds_means_nothing(self):
        draw = Random(63)
        for _ in range(30):
            system = drawn_system(draw, draw.randint(1, 3), draw.randint(1, 3))
            rule = drawn_rule(draw, system, 2)
            follows = drawn_follows(draw, system)
            turned = {kind: list(reversed(some)) for kind, some in reversed(list(follows.items()))}
            self.assertEqual(rule_factor(system, rule, follows), rule_factor(system, rule, turned))
            if known_by_hand(system, 1, follows, 150):
                self.assertEqual(known_factor(system, 1, follows), known_factor(system, 1, turned))

    def test_one_system_in_turns(self):
        for system in SYSTEMS + [IDLE_MODE]:
            if known_by_hand(system, 1, None, 150):
                told = known_factor(system, 1, None)
                for kind in system.names:
                    known_factor(system, 0, {name: [kind] for name in system.names})
                self.assertEqual(known_factor(system, 1, None), told)


if __name__ == "__main__":
    unittest.main()
