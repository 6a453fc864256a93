"""Points 12, 13 and 14, what point 3 says of them, and what point 18 says of the factors of systems."""

import copy
import time
import unittest
from fractions import Fraction
from itertools import product
from random import Random

from helpers import FOUR_MODES, IDLE_MODE, ONE_MODE, THREE_MODES, TWO_MODES, odd_values, wrong_factors
from latewise.errors import BadFactor, TooManyStates
from latewise.games import choices, have_factor, hold_factor, least_factor, requests
from latewise.systems import System
from reckoning import (
    able_modes, all_loops, count_of_loops_is_small, drawn_pairs, drawn_system, has_dear_loop, is_lowest,
    least_of_loops, positions_by_hand, spread, start_of,
)

NO_FACTOR = System([[0, 0, 0], [0, 0, 1], [0, 1, 0]], {
    "a": [1, 0, 0], "b": [1, 0, 1], "c": [1, 1, 0], "e": [0, 1, 1],
})
FREE = System([[0, 0], [0, 0]], {"a": [0, 1], "b": [1, 0]})
SIXTY = System([[0, 4, 0], [4, 0, 4], [1, 2, 0]], {"a": [1, 2, 2], "b": [3, None, 4], "c": [4, 1, None], "d": [1, 4, None]})
SIXTY_ONE = System([[0, 0, 4], [4, 0, 1], [2, 0, 0]], {"a": [4, None, 2], "b": [0, 0, 3], "c": [4, 3, 0]})
# Their least factors are greater ones: 5 and 6.
DEAR = System([[0, 1, 4], [4, 0, 0], [0, 0, 0]], {"a": [1, 0, 0], "b": [1, 0, 2], "c": [0, 2, 4]})
DEARER = System([[0, 4, 0], [0, 0, 4], [0, 1, 0]], {"a": [None, 1, 0], "b": [1, 0, 1], "c": [0, 1, 0], "d": [0, 0, 1]})
FACTORS = [(1, 1), (8, 7), (3, 2), (2, 1), (5, 2), (3, 1), (9, 1)]
ALL = object()


def drawn_systems():
    """Drawn systems of each size with their positions, where these are not too many; and some that have no factor."""
    draw = Random(21)
    found = [system for system, _ in drawn_pairs(20, 5)]
    for barred in (2, 100):
        found += [drawn_system(draw, modes, kinds, barred) for modes, kinds in product(range(1, 5), range(1, 5))]
    # Where costs are little, many of the systems have no factor, or (1, 1).
    for _ in range(30):
        switches = [[0 if k == j else draw.choice([0, 0, 0, 1]) for j in range(3)] for k in range(3)]
        found.append(System(switches, {name: [draw.choice([0, 1]) for _ in range(3)] for name in "abcd"}))
    for system in found + [TWO_MODES, NO_FACTOR, FREE, ONE_MODE, THREE_MODES, IDLE_MODE, DEAR, DEARER]:
        positions = positions_by_hand(system, 60)
        if positions is not None:
            yield system, positions


def chosen(system, positions, told):
    """The positions that are reached by all requests and these choices, with their steps."""
    return spread((0, start_of(system)), lambda one: [step for step in positions[one] if told[one][step[0][0]] == step[0][1]])


def requested(system, positions, told):
    """The positions that are reached by these requests and all modes, with their steps."""
    return spread((0, start_of(system)), lambda one: [step for step in positions[one] if told[one] == step[0][0]])


def has_free_loop(steps):
    """True if some loop has no cost."""
    # A loop that passes no place twice has fewer steps than this.
    return has_dear_loop(steps, lambda step: 1 - (len(steps) + 1) * step[2])


def keep_factor(steps, some_factor):
    """True if each loop of these steps has at most the factor."""
    return not has_dear_loop(steps, lambda step: some_factor[1] * step[2] - some_factor[0] * step[3])


def keep_up_factor(steps, some_factor):
    """True if each loop of these steps has a cost, and at least the factor; or no growth, for None."""
    if has_free_loop(steps):
        return False
    if some_factor is None:
        return not has_dear_loop(steps, lambda step: step[3])
    return not has_dear_loop(steps, lambda step: some_factor[0] * step[3] - some_factor[1] * step[2])


def all_ways(system, positions, most):
    """All dicts of choices for all positions; None if they are more than so many."""
    answers = [dict(zip(system.names, modes)) for modes in product(*[able_modes(system, kind) for kind in system.names])]
    if len(answers) ** len(positions) > most:
        return None
    return [dict(zip(positions, told)) for told in product(answers, repeat=len(positions))]


class LeastFactors(unittest.TestCase):
    def test_all_choices_tried_out(self):
        # Choices that depend on the position alone are enough: point 13 says that choices have the least factor.
        seen = {}
        draw = Random(22)
        while len(seen) < 2 or sum(seen.values()) < 25:
            system = drawn_system(draw, draw.choice([2, 2, 3]), draw.choice([1, 2]), 3)
            positions = positions_by_hand(system, 8)
            ways = positions and all_ways(system, positions, 300)
            if not ways or all(len(able_modes(system, kind)) == 1 for kind in system.names):
                continue
            factors = []
            for way in ways:
                least = least_of_loops(all_loops(chosen(system, positions, way)))
                if least is not None:
                    factors.append(Fraction(*least))
            told = least_factor(system)
            self.assertEqual(told, (min(factors).numerator, min(factors).denominator) if factors else None)
            seen[told == (1, 1)] = seen.get(told == (1, 1), 0) + 1

    def test_choices_have_it_and_requests_hold_it(self):
        kinds = {}
        for system, positions in drawn_systems():
            least = least_factor(system)
            kinds[None if least is None else least == (1, 1)] = True
            told, asked = choices(system), requests(system)
            if least is None:
                self.assertIsNone(told)
            else:
                self.assertTrue(is_lowest(least))
                self.assertTrue(keep_factor(chosen(system, positions, told), least))
            if least == (1, 1):
                self.assertIsNone(asked)
            else:
                self.assertTrue(keep_up_factor(requested(system, positions, asked), least))
        self.assertEqual(len(kinds), 3)

    def test_by_hand(self):
        self.assertEqual([least_factor(TWO_MODES), least_factor(NO_FACTOR)], [(2, 1), None])
        self.assertEqual([least_factor(FREE), least_factor(ONE_MODE)], [(1, 1), (1, 1)])
        self.assertEqual([least_factor(DEAR), least_factor(DEARER)], [(5, 1), (6, 1)])
        # Each request can be made to cost 1, by the mode or by a switch; whoever stays in one of the two modes pays for
        # at most each second one.
        self.assertEqual(least_factor(System([[0, 1], [1, 0]], {"a": [0, 1], "b": [1, 0]})), (2, 1))
        # Mode 0 need never be left.
        self.assertEqual(least_factor(System([[0, 1], [0, 0]], {"a": [0, 0]})), (1, 1))

    def test_no_switch_is_dearer_than_two(self):
        seen = 0
        for system, _ in drawn_systems():
            switches = system.switches()
            modes = range(system.modes)
            if all(switches[k][j] <= switches[k][m] + switches[m][j] for k in modes for j in modes for m in modes):
                seen += 1
                self.assertIsNotNone(least_factor(system))
        self.assertGreater(seen, 10)

    def test_costs_multiplied(self):
        for system, _ in drawn_systems():
            halves = [[cost // 2 for cost in costs] for costs in system.switches()]
            kinds = {kind: [None if cost is None else cost // 2 for cost in costs]
                     for kind, costs in system.kinds().items()}
            doubled = {kind: [None if cost is None else 2 * cost for cost in costs] for kind, costs in kinds.items()}
            try:
                told = least_factor(System(halves, kinds))
            except TooManyStates:
                continue
            self.assertEqual(least_factor(System([[2 * cost for cost in costs] for costs in halves], doubled)), told)

    def test_keys_in_another_order(self):
        for system, _ in drawn_systems():
            turned = System(system.switches(), dict(reversed(list(system.kinds().items()))))
            self.assertEqual(least_factor(turned), least_factor(system))


class KindsOfValues(unittest.TestCase):
    def test_choices(self):
        for system, positions in drawn_systems():
            told = choices(system)
            if told is not None:
                self.assertIs(type(told), dict)
                self.assertTrue(set(chosen(system, positions, told)) <= set(told))
                for answer in told.values():
                    self.assertIs(type(answer), dict)
                    self.assertEqual(sorted(answer), sorted(system.names))
                    self.assertTrue(all(type(mode) is int for mode in answer.values()))
                    self.assertTrue(all(mode in able_modes(system, kind) for kind, mode in answer.items()))

    def test_requests(self):
        for system, positions in drawn_systems():
            told = requests(system)
            if told is not None:
                self.assertIs(type(told), dict)
                self.assertTrue(set(requested(system, positions, told)) <= set(told))
                self.assertTrue(all(kind in system.names for kind in told.values()))


class Judged(unittest.TestCase):
    def test_drawn_choices(self):
        draw = Random(23)
        judged = {}
        for system, positions in drawn_systems():
            for _ in range(2):
                told = {one: {kind: draw.choice(able_modes(system, kind)) for kind in system.names} for one in positions}
                steps = chosen(system, positions, told)
                for some_factor in FACTORS:
                    right = keep_factor(steps, some_factor)
                    judged[right] = True
                    self.assertIs(have_factor(system, told, some_factor), right)
        self.assertEqual(len(judged), 2)

    def test_drawn_requests(self):
        draw = Random(24)
        judged = {}
        for system, positions in drawn_systems():
            for _ in range(2):
                told = {one: draw.choice(system.names) for one in positions}
                steps = requested(system, positions, told)
                for some_factor in FACTORS + [None]:
                    right = keep_up_factor(steps, some_factor)
                    judged[some_factor is None, right] = True
                    self.assertIs(hold_factor(system, told, some_factor), right)
        self.assertGreaterEqual(len(judged), 3)

    def test_all_loops_tried_out(self):
        draw = Random(25)
        tried = 0
        for system, positions in drawn_systems():
            told = {one: {kind: draw.choice(able_modes(system, kind)) for kind in system.names} for one in positions}
            asked = {one: draw.choice(system.names) for one in positions}
            if len(positions) <= 12:
                if count_of_loops_is_small(chosen(system, positions, told), 3000):
                    tried += 1
                    loops = all_loops(chosen(system, positions, told))
                    for top, bottom in FACTORS:
                        right = all(bottom * cost <= top * grown for cost, grown in loops)
                        self.assertIs(have_factor(system, told, (top, bottom)), right)
                if count_of_loops_is_small(requested(system, positions, asked), 3000):
                    loops = all_loops(requested(system, positions, asked))
                    for top, bottom in FACTORS:
                        right = all(bottom * cost >= top * grown and cost > 0 for cost, grown in loops)
                        self.assertIs(hold_factor(system, asked, (top, bottom)), right)
                    right = all(cost > 0 and grown == 0 for cost, grown in loops)
                    self.assertIs(hold_factor(system, asked, None), right)
        self.assertGreater(tried, 20)

    def test_the_least_factor_and_others(self):
        for system, _ in drawn_systems():
            least, told, asked = least_factor(system), choices(system), requests(system)
            for some_factor in FACTORS + [(10 ** 400 + 1, 10 ** 400), (10 ** 400, 1)]:
                if told is not None:
                    if Fraction(*some_factor) >= Fraction(*least):
                        self.assertIs(have_factor(system, told, some_factor), True)
                    else:
                        self.assertIs(have_factor(system, told, some_factor), False)
                if asked is not None and (least is None or Fraction(*some_factor) <= Fraction(*least)):
                    self.assertIs(hold_factor(system, asked, some_factor), True)
                elif asked is not None:
                    self.assertIs(hold_factor(system, asked, some_factor), False)
            if asked is not None:
                self.assertIs(hold_factor(system, asked, least), True)
                self.assertIs(hold_factor(system, asked, None), least is None)

    def test_a_loop_without_cost_holds_nothing(self):
        asked = {(mode, owed): "a" for mode, owed in positions_by_hand(FREE)}
        for some_factor in (None, (1, 1), (2, 1)):
            self.assertIs(hold_factor(FREE, asked, some_factor), False)

    def test_loops_with_a_cost_and_a_growth(self):
        asked = {(0, (0,)): "a"}
        self.assertIs(hold_factor(ONE_MODE, asked, (1, 1)), True)
        self.assertIs(hold_factor(ONE_MODE, asked, (2, 1)), False)
        self.assertIs(hold_factor(ONE_MODE, asked, None), False)
        told = {(0, (0,)): {"a": 0}}
        self.assertIs(have_factor(ONE_MODE, told, (1, 1)), True)


class JudgedValues(unittest.TestCase):
    def judge(self, judging, told, right):
        """Judged as it is: for choices with their factor, for requests with theirs."""
        self.assertIs(judging(TWO_MODES, told, (2, 1)), right)

    def test_no_dicts(self):
        for judging, told in ((have_factor, choices(TWO_MODES)), (hold_factor, requests(TWO_MODES))):
            self.judge(judging, told, True)
            for value in odd_values() + [list(told), list(told.items()), tuple(told.items()), TWO_MODES, "q", 7]:
                self.judge(judging, value, False)
                if judging is hold_factor:
                    self.assertIs(hold_factor(TWO_MODES, value, None), False)

    def test_each_position_that_is_reached_must_be_a_key(self):
        for judging, told in ((have_factor, choices(TWO_MODES)), (hold_factor, requests(TWO_MODES))):
            reach = chosen if judging is have_factor else requested
            for one in reach(TWO_MODES, positions_by_hand(TWO_MODES), told):
                self.judge(judging, {other: told[other] for other in told if other != one}, False)
                for key in (None, one[:1], (*one, 0), (one[0], one[1] + (0,)), (one[0], list(one[1]).__repr__())):
                    self.judge(judging, {key if other == one else other: told[other] for other in told}, False)

    def test_other_keys_mean_nothing(self):
        for judging, told in ((have_factor, choices(TWO_MODES)), (hold_factor, requests(TWO_MODES))):
            for key in (None, 0, "q", (), (0,), (0, (7, 7)), (5, (0, None)), ((((),),),), True):
                for value in odd_values():
                    self.judge(judging, {**told, key: value}, True)
        # No request leads to these positions from the beginning.
        asked = {(0, (0, None)): "p"}
        system = System([[0, 0], [0, 0]], {"p": [1, None], "q": [None, 1]})
        self.assertIs(hold_factor(system, {**asked, (1, (None, 0)): 7}, (1, 1)), True)
        self.assertIs(hold_factor(system, {**asked, (0, (0, None)): 7}, (1, 1)), False)

    def test_keys_are_compared_by_equality(self):
        told = {(bool(mode), tuple(bool(debt) if debt in (0, 1) else debt for debt in owed)): answer
                for (mode, owed), answer in choices(TWO_MODES).items()}
        self.judge(have_factor, told, True)
        asked = {(bool(mode), tuple(bool(debt) if debt in (0, 1) else debt for debt in owed)): kind
                 for (mode, owed), kind in requests(TWO_MODES).items()}
        self.judge(hold_factor, asked, True)

    def test_answers_that_are_none(self):
        told = choices(TWO_MODES)
        for one in chosen(TWO_MODES, positions_by_hand(TWO_MODES), told):
            right = told[one]
            wrong = odd_values() + [
                {"q": right["q"]}, {"p": right["p"]}, {**right, "z": 0}, {**right, None: 0}, {"q": 0, "z": 0},
                [right["p"], right["q"]], list(right.items()), {"q": right["p"], "P": right["q"]},
            ]
            for value in wrong:
                self.judge(have_factor, {**told, one: value}, False)

    def test_modes_that_are_none(self):
        told = choices(TWO_MODES)
        for one in chosen(TWO_MODES, positions_by_hand(TWO_MODES), told):
            for kind in ("p", "q"):
                for value in odd_values() + [2, 4, "0", (0,), [0]]:
                    self.judge(have_factor, {**told, one: {**told[one], kind: value}}, False)

    def test_modes_that_cannot_serve(self):
        told = choices(THREE_MODES)
        least = least_factor(THREE_MODES)
        self.assertIs(have_factor(THREE_MODES, told, least), True)
        for one in chosen(THREE_MODES, positions_by_hand(THREE_MODES), told):
            for mode in (0, 1, 3):
                self.assertIs(have_factor(THREE_MODES, {**told, one: {**told[one], "x": mode}}, (90, 1)), False)

    def test_requests_that_are_none(self):
        asked = requests(TWO_MODES)
        for one in requested(TWO_MODES, positions_by_hand(TWO_MODES), asked):
            for value in odd_values() + ["z", "P", ("p",), ["p"], b"p", 3]:
                if value not in ("p", "q"):
                    self.judge(hold_factor, {**asked, one: value}, False)
                    self.assertIs(hold_factor(TWO_MODES, {**asked, one: value}, None), False)

    def test_the_order_of_the_keys_means_nothing(self):
        told = {one: dict(reversed(list(answer.items()))) for one, answer in reversed(list(choices(TWO_MODES).items()))}
        self.judge(have_factor, told, True)
        self.judge(hold_factor, dict(reversed(list(requests(TWO_MODES).items()))), True)


class Errors(unittest.TestCase):
    def calls(self, system, value):
        return [
            lambda: have_factor(system, choices(TWO_MODES), value),
            lambda: have_factor(system, None, value),
            lambda: have_factor(system, value, value),
            lambda: hold_factor(system, requests(TWO_MODES), value),
            lambda: hold_factor(system, [], value),
            lambda: hold_factor(system, value, value),
        ]

    def test_no_factor(self):
        for value in wrong_factors():
            for at, call in enumerate(self.calls(TWO_MODES, value)):
                if value is None and at >= 3:
                    self.assertIs(call(), False)
                else:
                    with self.assertRaises(BadFactor):
                        call()

    def test_too_many_positions_ahead_of_all(self):
        self.assertEqual(len(positions_by_hand(SIXTY_ONE)), 61)
        for system in (SIXTY_ONE, FOUR_MODES):
            calls = [call for value in ((2, 1), (2, 2), None) for call in self.calls(system, value)]
            for call in calls + [lambda: least_factor(system), lambda: choices(system), lambda: requests(system)]:
                with self.assertRaises(TooManyStates):
                    call()

    def test_sixty_positions_and_how_long_they_take(self):
        positions = positions_by_hand(SIXTY)
        self.assertEqual(len(positions), 60)
        begun = time.monotonic()
        least, told, asked = least_factor(SIXTY), choices(SIXTY), requests(SIXTY)
        self.assertIs(have_factor(SIXTY, told, least), True)
        self.assertIs(hold_factor(SIXTY, asked, least), True)
        self.assertLess(time.monotonic() - begun, 30)
        self.assertTrue(keep_factor(chosen(SIXTY, positions, told), least))
        self.assertTrue(keep_up_factor(requested(SIXTY, positions, asked), least))


class Passed(unittest.TestCase):
    def test_by_name(self):
        self.assertEqual(least_factor(system=TWO_MODES), (2, 1))
        told, asked = choices(system=TWO_MODES), requests(system=TWO_MODES)
        self.assertIs(have_factor(some_factor=(2, 1), choices=told, system=TWO_MODES), True)
        self.assertIs(hold_factor(some_factor=(2, 1), requests=asked, system=TWO_MODES), True)

    def test_arguments_are_not_changed(self):
        system = System(TWO_MODES.switches(), TWO_MODES.kinds())
        for value in odd_values() + [choices(system), requests(system), {(0, (0, None)): {"p": [0], "q": {}}}]:
            kept = copy.deepcopy(value)
            have_factor(system, value, (2, 1))
            hold_factor(system, value, None)
            with self.assertRaises(BadFactor):
                hold_factor(system, value, [value])
            self.assertEqual(value, kept)
        self.assertEqual(system, TWO_MODES)

    def test_results_are_new(self):
        told, asked = choices(TWO_MODES), requests(TWO_MODES)
        kept = copy.deepcopy(told), copy.deepcopy(asked)
        for answer in told.values():
            answer.clear()
        told.clear()
        asked.clear()
        self.assertEqual((choices(TWO_MODES), requests(TWO_MODES)), kept)
        told = choices(TWO_MODES)
        self.assertEqual(len({id(answer) for answer in told.values()}), len(told))

    def test_what_is_changed_between_two_calls(self):
        told, asked = choices(TWO_MODES), requests(TWO_MODES)
        kept = told[0, (0, None)]["q"]
        for _ in range(2):
            self.assertIs(have_factor(TWO_MODES, told, (2, 1)), True)
            told[0, (0, None)]["q"] = 2
            self.assertIs(have_factor(TWO_MODES, told, (2, 1)), False)
            told[0, (0, None)]["q"] = kept
            self.assertIs(hold_factor(TWO_MODES, asked, (2, 1)), True)
            kind = asked.pop((0, (0, None)))
            self.assertIs(hold_factor(TWO_MODES, asked, (2, 1)), False)
            asked[0, (0, None)] = kind


if __name__ == "__main__":
    unittest.main()
