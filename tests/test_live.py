"""Point 17, and what points 3 and 18 say of it: a live machine beside a plain one."""

import time
import unittest
from random import Random

from helpers import FOUR_MODES, IDLE_MODE, ONE_MODE, TWO_MODES, long_row, odd_values, wrong_factors
from joint_reckoning import outcome
from latewise.errors import BadFactor, OtherModes, TooDear, TooManyStates, Unfit, UnknownKind, UnknownMark, WiseError
from latewise.factors import excess, factor
from latewise.hindsight import best, debts
from latewise.live import Live
from latewise.rules import Rule, cost, modes_of
from latewise.systems import System
from plain_live import PlainLive
from reckoning import (
    NAMES, cost_of_step, drawn_pairs, drawn_rule, drawn_system, growth_by_hand, spots_by_hand, start_of,
)

RULE = Rule([{"q": (0, 1), "p": (0, 0)}, {"q": (1, 1), "p": (0, 0)}])
OTHER = Rule([{"q": (1, 0), "p": (0, 0)}])
STAYING = Rule([{"q": (0, 0), "p": (0, 0)}])
LAST_UNFIT = Rule([{"q": (0, 0), "p": (0, 0)}, {"q": (0, 0), "p": (3, 0)}])
TELLS = ["system", "rule", "mode", "state", "paid", "best", "debts", "left", "allowance"]

# From the beginning 1,000 spots can be reached, but behind ["c", "c"] from the mode 0 on 1,002.
THOUSAND = System(
    [[0, 3, 4, 4], [4, 0, 4, 1], [3, 4, 0, 4], [1, 4, 2, 0]], {"a": [4, 1, 2, 1], "b": [2, 4, 4, 4], "c": [4, 3, 1, 2]},
)
THOUSAND_RULE = Rule([
    {"a": (3, 3), "b": (2, 3), "c": (3, 1)}, {"a": (2, 5), "b": (0, 0), "c": (3, 1)},
    {"a": (3, 3), "b": (2, 4), "c": (3, 2)}, {"a": (0, 0), "b": (1, 2), "c": (2, 1)},
    {"a": (3, 2), "b": (0, 2), "c": (0, 3)}, {"a": (2, 1), "b": (3, 0), "c": (3, 1)},
])
# From the beginning 1,001 spots can be reached, but behind ["a"] from the mode 0 on 1,000.
ONE_MORE = System(
    [[0, 4, 3, 2], [3, 0, 4, 3], [3, 0, 0, 4], [3, 2, 1, 0]], {"a": [4, 2, 3, 1], "b": [1, 2, 2, 1], "c": [2, 2, 2, 3]},
)
ONE_MORE_RULE = Rule([
    {"a": (2, 2), "b": (3, 2), "c": (0, 4)}, {"a": (2, 6), "b": (0, 4), "c": (3, 6)},
    {"a": (2, 1), "b": (0, 1), "c": (1, 0)}, {"a": (0, 0), "b": (0, 3), "c": (3, 1)},
    {"a": (3, 7), "b": (3, 7), "c": (3, 3)}, {"a": (2, 4), "b": (0, 0), "c": (0, 2)},
    {"a": (3, 6), "b": (1, 0), "c": (1, 1)}, {"a": (1, 2), "b": (3, 3), "c": (1, 6)},
])
ALONE = Rule([{"a": (0, 0), "b": (0, 0), "c": (0, 0)}])


def told(live):
    """All that a live machine tells of itself."""
    return [getattr(live, name)() for name in TELLS]


def dear_system(draw, modes, kinds):
    """A system where each request has a growth, so that each rule has a factor."""
    while True:
        services = {name: [draw.choice([None, 1, 2, 3, 4]) for _ in range(modes)] for name in NAMES[:kinds]}
        switches = [[0 if k == j else draw.randint(0, 4) for j in range(modes)] for k in range(modes)]
        if all(any(cost is not None for cost in costs) for costs in services.values()):
            return System(switches, services)


def worth_of_row(system, rule, some_factor, spot, row):
    """What a row that still comes is worth at a spot."""
    state, mode, owed = spot
    worth = 0
    for kind in row:
        chosen, following = rule.states()[state][kind]
        grown, owed = growth_by_hand(system, owed, kind)
        worth += some_factor[1] * cost_of_step(system, mode, kind, chosen) - some_factor[0] * grown
        state, mode = following, chosen
    return worth


class BesideAPlainOne(unittest.TestCase):
    def begin(self, draw):
        """A live machine and a plain one that can begin, with what they may be changed to."""
        while True:
            modes, kinds = draw.choice([(1, 2), (2, 1), (2, 2), (2, 3), (3, 1), (3, 2), (4, 1)])
            make = draw.choice([dear_system, dear_system, drawn_system])
            systems = [make(draw, modes, draw.choice([kinds, kinds, 1])) for _ in range(3)]
            systems += [dear_system(draw, modes % 4 + 1, kinds)]
            wide = max(systems[:3], key=lambda system: len(system.names))
            rules = [drawn_rule(draw, draw.choice([wide, systems[-1]]), draw.randint(1, 3)) for _ in range(5)]
            some_factor = draw.choice([(8, 1), (8, 1), (17, 2), (5, 1), (3, 1), (10 ** 22 + 1, 10 ** 21)])
            made = outcome(lambda: Live(wide, rules[0], some_factor))
            plain = outcome(lambda: PlainLive(wide, rules[0], some_factor))
            if isinstance(made, list):
                self.assertEqual(made, plain)
            elif len(spots_by_hand(wide, rules[0])) <= 60:
                return made, plain, systems, rules

    def call(self, draw, plain, systems, rules):
        """The name of a method that is called next, and its argument."""
        name = draw.choice(["serve"] * 8 + ["change_rule", "change_system"] * 2 + ["mark", "mark", "back", "back"])
        if name == "serve":
            kinds = list(plain.now["system"].names)
            return name, [draw.choice(kinds * 4 + NAMES + ["zz", None, 0, ["a"], ("a",)])]
        if name == "change_rule":
            return name, [draw.choice(rules)]
        if name == "change_system":
            return name, [draw.choice(systems)]
        if name == "mark":
            return name, []
        many = len(plain.marks)
        return name, [draw.choice(list(range(many)) * 3 + [many, -1, None, True, False, "0", (0,), 10 ** 30])]

    def test_behind_each_call(self):
        draw = Random(71)
        seen = {}
        for _ in range(150):
            live, plain, systems, rules = self.begin(draw)
            earlier = []
            for _ in range(60):
                name, arguments = self.call(draw, plain, systems, rules)
                found = outcome(lambda: getattr(live, name)(*arguments))
                wanted = outcome(lambda: getattr(plain, name)(*arguments))
                self.assertEqual(found, wanted, (name, arguments))
                self.assertEqual(type(found), type(wanted))
                self.assertEqual(told(live), plain.told())
                self.judge_row(live, plain)
                key = name, found[0] if isinstance(found, list) else name == "back" or bool(found)
                seen[key] = seen.get(key, 0) + 1
                earlier.append((live.debts(), plain.now["spot"][2]))
            self.assertTrue(all(one == other for one, other in earlier))
        for key in (
            ("serve", UnknownKind), ("back", UnknownMark), ("change_system", OtherModes), ("change_system", Unfit),
            ("change_rule", Unfit), ("change_rule", TooDear), ("change_system", TooDear), ("change_rule", True),
            ("change_rule", False), ("change_system", True), ("change_system", False), ("back", True), ("mark", True),
        ):
            self.assertGreater(seen.get(key, 0), 0, key)

    def judge_row(self, live, plain):
        now = plain.now
        row = live.worst_row()
        self.assertIs(type(row), list)
        worth = worth_of_row(now["system"], now["rule"], plain.some_factor, now["spot"], row)
        self.assertEqual(worth, live.left())
        row.append("zz")
        self.assertEqual(plain.told(), told(live))
        # At each moment, what was paid, weighed, and what is left, are at most the allowance.
        top, bottom = plain.some_factor
        self.assertLessEqual(bottom * live.paid() - top * live.best() + live.left(), live.allowance())


class Alone(unittest.TestCase):
    def test_a_machine_that_is_not_changed(self):
        for system, rule in drawn_pairs(72, 3):
            least = outcome(lambda: factor(system, rule))
            if least is None or isinstance(least, list):
                continue
            live = Live(system, rule, least)
            self.assertEqual([live.left(), live.allowance()], [excess(system, rule, least)] * 2)
            row = long_row(system, 60)
            modes = modes_of(system, rule, row)
            for at, kind in enumerate(row):
                ahead = live.paid()
                mode, paid = live.serve(kind)
                self.assertEqual((mode, paid), (modes[at], live.paid() - ahead))
                so_far = row[:at + 1]
                self.assertEqual(live.paid(), cost(system, rule, so_far))
                self.assertEqual([live.best(), live.debts()], [best(system, so_far), debts(system, so_far)])
                self.assertEqual([live.system(), live.rule(), live.mode()], [system, rule, mode])
                self.assertGreaterEqual(live.paid(), live.best() + live.debts()[live.mode()])
                self.assertEqual(live.allowance(), excess(system, rule, least))

    def test_the_beginning(self):
        live = Live(TWO_MODES, RULE, (2, 1))
        self.assertEqual(told(live), [TWO_MODES, RULE, 0, 0, 0, 0, (0, None), 0, 0])
        self.assertEqual([type(value) for value in told(live)[2:]], [int] * 4 + [tuple] + [int] * 2)
        self.assertEqual(live.worst_row(), [])

    def test_by_hand(self):
        live = Live(TWO_MODES, RULE, (2, 1))
        self.assertEqual([live.serve("q"), live.serve("q"), live.serve("p")], [(0, 1), (1, 1), (0, 2)])
        self.assertEqual(told(live), [TWO_MODES, RULE, 0, 0, 4, 2, (0, 1), 0, 0])
        # The other rule goes at once: 1 for "q" and 2 for "p" again and again, where the best pays 1.
        self.assertEqual(outcome(lambda: live.change_rule(OTHER)), [TooDear, {}])
        self.assertEqual(told(live), [TWO_MODES, RULE, 0, 0, 4, 2, (0, 1), 0, 0])

    def test_a_change_that_raises_the_allowance(self):
        live = Live(TWO_MODES, RULE, (3, 1))
        self.assertEqual([live.left(), live.allowance()], [0, 0])
        live.serve("q")
        self.assertEqual([live.state(), live.debts(), live.left(), live.worst_row()], [1, (0, 0), 1, ["q"]])
        # At its state 0 the rule pays 1 for each of two, where the best pays nothing.
        self.assertEqual([live.change_rule(RULE), live.left(), live.allowance()], [1, 2, 1])
        self.assertEqual([live.state(), live.mode(), live.debts(), live.paid()], [0, 0, (0, 0), 1])
        self.assertEqual(live.worst_row(), ["q", "q"])
        self.assertEqual([live.change_rule(OTHER), live.left(), live.allowance()], [0, 1, 1])
        live.serve("q")
        self.assertEqual([live.paid(), live.best(), live.debts(), live.left()], [2, 1, (1, 0), 0])
        twice = Rule([{"q": (1, 1), "p": (1, 0)}, {"q": (1, 1), "p": (0, 0)}])
        self.assertEqual([outcome(lambda: live.change_rule(twice)), live.rule()], [[TooDear, {}], OTHER])
        # Back to the mode 0 for 3, and to the mode 1 for 1. What is left rises from 0, whatever was used up.
        self.assertEqual([live.change_rule(RULE), live.left(), live.allowance()], [4, 4, 5])

    def test_what_was_paid_keeps_its_costs(self):
        live = Live(TWO_MODES, RULE, (4, 1))
        dearer = System([[0, 4], [4, 0]], {"q": [4, 0], "p": [0, 4]})
        cheaper = System([[0, 1], [1, 0]], {"q": [1, 0], "p": [0, 1]})
        live.serve("q")
        live.serve("q")
        self.assertEqual([live.paid(), live.best(), live.debts(), live.state()], [2, 1, (1, 0), 1])
        for system in (cheaper, dearer):
            allowance = live.allowance()
            self.assertEqual(live.change_system(system), live.allowance() - allowance)
            self.assertEqual([live.system(), live.mode(), live.state()], [system, 1, 1])
            self.assertEqual([live.paid(), live.best(), live.debts()], [2, 1, (1, 0)])
        # From the debts (1, 0): the best stays in the mode 0 for 1, or switches for 4.
        self.assertEqual([live.serve("p"), live.paid(), live.best(), live.debts()], [(0, 4), 6, 2, (0, 3)])

    def test_the_modes_may_serve_other_kinds_then(self):
        live = Live(System([[0, 0], [0, 0]], {"a": [0, 0], "b": [1, 1]}), Rule([{"a": (1, 0), "b": (0, 0)}]), (1, 1))
        live.serve("a")
        other = System([[0, 2], [2, 0]], {"a": [None, 1]})
        live.change_system(other)
        self.assertEqual([live.serve("a"), live.debts()], [(1, 1), (None, 0)])
        self.assertEqual(outcome(lambda: live.serve("b")), [UnknownKind, {"kind": "b"}])


class Marks(unittest.TestCase):
    def test_back_brings_all_back(self):
        live = Live(TWO_MODES, RULE, (3, 1))
        self.assertEqual(live.mark(), 0)
        first = told(live)
        live.serve("q")
        live.change_rule(OTHER)
        live.serve("q")
        second = told(live)
        self.assertEqual(live.mark(), 1)
        live.change_system(System([[0, 1], [1, 0]], TWO_MODES.kinds()))
        live.serve("p")
        self.assertEqual(live.mark(), 2)
        third = told(live)
        self.assertIsNone(live.back(1))
        self.assertEqual(told(live), second)
        # The later mark has ended, and this one stays.
        self.assertEqual(outcome(lambda: live.back(2)), [UnknownMark, {"number": 2}])
        live.serve("p")
        self.assertNotIn(told(live), (first, second, third))
        live.back(1)
        self.assertEqual(told(live), second)
        self.assertEqual(live.mark(), 2)
        live.back(0)
        self.assertEqual(told(live), first)
        live.back(0)
        self.assertEqual([live.mark(), live.mark()], [1, 2])
        self.assertEqual(live.serve("q"), (0, 1))

    def test_no_marks(self):
        live = Live(TWO_MODES, RULE, (2, 1))
        for value in odd_values() + [0, 1, (0,), "0"]:
            with self.assertRaises(UnknownMark) as caught:
                live.back(value)
            self.assertIs(caught.exception.number, value)
        live.mark()
        for value in odd_values() + [1, -1, (0,), "0", [0]]:
            with self.assertRaises(UnknownMark) as caught:
                live.back(value)
            self.assertIs(caught.exception.number, value)
        self.assertIsNone(live.back(0))

    def test_refused_calls_leave_the_marks(self):
        live = Live(TWO_MODES, RULE, (2, 1))
        live.mark()
        live.serve("q")
        live.mark()
        live.serve("q")
        now = told(live)
        for call in (
            lambda: live.serve("z"), lambda: live.change_rule(STAYING), lambda: live.change_rule(LAST_UNFIT),
            lambda: live.change_system(ONE_MODE), lambda: live.back(2), lambda: live.back(-1),
            lambda: live.change_system(System([[0, 1], [2, 0]], {"q": [1, 0], "r": [1, 1]})), lambda: live.back(True),
        ):
            with self.assertRaises(WiseError):
                call()
            self.assertEqual(told(live), now)
        live.back(1)
        self.assertEqual([live.paid(), live.state(), live.system()], [1, 1, TWO_MODES])
        self.assertNotEqual(told(live), now)
        live.back(0)
        self.assertEqual(told(live), told(Live(TWO_MODES, RULE, (2, 1))))

    def test_two_machines_have_their_own_marks(self):
        one, other = Live(TWO_MODES, RULE, (2, 1)), Live(TWO_MODES, RULE, (2, 1))
        one.mark()
        one.serve("q")
        self.assertEqual(outcome(lambda: other.back(0)), [UnknownMark, {"number": 0}])
        self.assertEqual([other.paid(), one.paid()], [0, 1])


class Errors(unittest.TestCase):
    def test_which_one_is_first_at_the_beginning(self):
        other = System(ONE_MORE.switches(), {**ONE_MORE.kinds(), "c": [None, 2, 2, 3]})
        for value in ((8, 1), (2, 2), None):
            with self.assertRaises(Unfit) as caught:
                Live(other, ONE_MORE_RULE, value)
            self.assertEqual((caught.exception.place, caught.exception.kind), (0, "c"))
            with self.assertRaises(Unfit) as caught:
                Live(TWO_MODES, LAST_UNFIT, value)
            self.assertEqual((caught.exception.place, caught.exception.kind), (1, "p"))
        for value in wrong_factors():
            for system, rule in ((TWO_MODES, RULE), (TWO_MODES, STAYING), (ONE_MORE, ONE_MORE_RULE)):
                with self.assertRaises(BadFactor):
                    Live(system, rule, value)
        self.assertEqual(outcome(lambda: Live(ONE_MORE, ONE_MORE_RULE, (1, 1))), [TooManyStates, {}])
        self.assertEqual(outcome(lambda: Live(THOUSAND, THOUSAND_RULE, (1, 1))), [TooDear, {}])
        self.assertEqual(outcome(lambda: Live(TWO_MODES, RULE, (3, 2))), [TooDear, {}])
        self.assertEqual(outcome(lambda: Live(TWO_MODES, STAYING, (10 ** 40, 1))), [TooDear, {}])

    def test_spots_are_counted_from_the_one_of_now(self):
        for system, rule, spot, many in (
            (THOUSAND, THOUSAND_RULE, (0, 0, start_of(THOUSAND)), 1000),
            (ONE_MORE, ONE_MORE_RULE, (0, 0, start_of(ONE_MORE)), 1001),
            (THOUSAND, THOUSAND_RULE, (0, 0, debts(THOUSAND, ["c", "c"])), 1002),
            (ONE_MORE, ONE_MORE_RULE, (0, 0, debts(ONE_MORE, ["a"])), 1000),
        ):
            self.assertEqual(len(spots_by_hand(system, rule, 2000, spot)), many)
        begun = time.monotonic()
        live = Live(THOUSAND, THOUSAND_RULE, (8, 1))
        live.change_rule(ALONE)
        live.serve("c")
        live.serve("c")
        now = told(live)
        self.assertEqual(outcome(lambda: live.change_rule(THOUSAND_RULE)), [TooManyStates, {}])
        self.assertEqual(told(live), now)
        live = Live(ONE_MORE, ALONE, (8, 1))
        self.assertEqual(outcome(lambda: live.change_rule(ONE_MORE_RULE)), [TooManyStates, {}])
        live.serve("a")
        live.change_rule(ONE_MORE_RULE)
        self.assertEqual(live.rule(), ONE_MORE_RULE)
        live.worst_row()
        self.assertLess(time.monotonic() - begun, 20)

    def test_too_many_ahead_of_too_dear_and_other_modes_ahead_of_unfit(self):
        live = Live(ONE_MORE, ALONE, (8, 1))
        self.assertEqual(outcome(lambda: live.change_system(TWO_MODES)), [OtherModes, {}])
        self.assertEqual(outcome(lambda: live.change_system(ONE_MODE)), [OtherModes, {}])
        self.assertEqual(outcome(lambda: live.change_system(FOUR_MODES)), [Unfit, {"place": 0, "kind": "abcdefgh"}])
        self.assertEqual(outcome(lambda: live.change_rule(RULE)), [Unfit, {"place": 0, "kind": "a"}])
        unfit = Rule([{"a": (0, 1), "b": (0, 0)}, {"a": (0, 1), "b": (0, 0)}])
        self.assertEqual(outcome(lambda: live.change_rule(unfit)), [Unfit, {"place": 0, "kind": "c"}])
        cheap = Live(ONE_MORE, Rule([{"a": (3, 0), "b": (3, 0), "c": (3, 0)}]), (3, 1))
        free = System(ONE_MORE.switches(), {"a": [1, 1, 1, 0], "b": [1, 1, 1, 0], "c": [0, 1, 1, 4]})
        self.assertEqual(outcome(lambda: cheap.change_system(free)), [TooDear, {}])
        self.assertEqual(outcome(lambda: cheap.change_rule(ONE_MORE_RULE)), [TooManyStates, {}])

    def test_unknown_kinds(self):
        live = Live(TWO_MODES, RULE, (2, 1))
        now = told(live)
        for value in odd_values() + [["q"], ("q",), "Q", "qq", 0, b"q", RULE]:
            if value not in ("p", "q"):
                with self.assertRaises(UnknownKind) as caught:
                    live.serve(value)
                self.assertIs(caught.exception.kind, value)
                self.assertEqual(told(live), now)


class Passed(unittest.TestCase):
    def test_by_name(self):
        live = Live(some_factor=(3, 1), rule=RULE, system=TWO_MODES)
        self.assertEqual(live.serve(kind="q"), (0, 1))
        self.assertEqual([live.change_rule(rule=RULE), live.change_system(system=TWO_MODES)], [1, 0])
        live.mark()
        self.assertIsNone(live.back(number=0))

    def test_what_is_told_is_new_and_stays(self):
        live = Live(TWO_MODES, RULE, (5, 2))
        rows = []
        for kind in long_row(TWO_MODES, 12):
            live.serve(kind)
            rows.append((live.worst_row(), list(live.worst_row()), live.debts()))
            live.worst_row().append("q")
        self.assertTrue(all(first == second for first, second, _ in rows))

    def test_systems_and_rules_are_not_changed(self):
        live = Live(TWO_MODES, RULE, (3, 1))
        live.serve("q")
        live.change_rule(OTHER)
        live.change_system(System([[0, 1], [1, 0]], TWO_MODES.kinds()))
        self.assertEqual(TWO_MODES, System([[0, 1], [2, 0]], {"q": [1, 0], "p": [0, 2]}))
        self.assertEqual(RULE, Rule([{"q": (0, 1), "p": (0, 0)}, {"q": (1, 1), "p": (0, 0)}]))
        live.rule().states()[0].clear()
        live.system().kinds().clear()
        self.assertEqual(live.serve("q"), (1, 1))

    def test_a_mode_that_serves_nothing(self):
        rule = Rule([{"a": (0, 0), "b": (2, 0), "c": (2, 0)}])
        live = Live(IDLE_MODE, rule, (8, 1))
        self.assertEqual([live.serve("b"), live.serve("a"), live.debts()], [(2, 6), (0, 5), (0, None, None)])

    def test_thousands_of_calls(self):
        live = Live(TWO_MODES, RULE, (2, 1))
        row = long_row(TWO_MODES, 5000)
        begun = time.monotonic()
        for kind in row:
            live.serve(kind)
            told(live)
            live.worst_row()
            live.back(live.mark())
        self.assertLess(time.monotonic() - begun, 20)
        self.assertEqual([live.paid(), live.best()], [cost(TWO_MODES, RULE, row), best(TWO_MODES, row)])


if __name__ == "__main__":
    unittest.main()
