"""Points 30 and 31, and what points 3 and 20 say of them: live mixtures and live sources beside plain ones."""

import time
import unittest
from fractions import Fraction
from itertools import product
from random import Random

from chance_reckoning import draws_by_hand, rule_positions_by_hand, some_source
from helpers import IDLE_MODE, ONE_MODE, TWO_MODES, long_row, odd_values, wrong_factors
from joint_reckoning import drawn_mixtures, drawn_rules, joint_by_hand, outcome
from latewise.averages import rule_table
from latewise.drawn import LiveMixture, LiveSource
from latewise.errors import (
    AlreadyDrawn, BadFactor, NotDrawn, TooDear, TooManyStates, Unfit, UnfitSource, UnknownDraw, UnknownKind, UnknownMark,
)
from latewise.hindsight import best, debts
from latewise.mixtures import Mixture, mixture_bounds, mixture_factor
from latewise.rules import Rule, cost
from latewise.sources import Source
from latewise.systems import System
from plain_drawn import PlainMixture, PlainSource
from reckoning import NAMES, drawn_rule, drawn_system, start_of
from test_averages import (
    EIGHTY_RULE, EIGHTY_SOURCE, EIGHTY_SYSTEM, MORE_RULE, MORE_SOURCE, MORE_SYSTEM, PARTED, parted_rule,
)
from test_live import dear_system
from test_mixtures import ONE_MORE, ONE_MORE_RULES, THOUSAND, THOUSAND_RULES

RULE = Rule([{"q": (0, 1), "p": (0, 0)}, {"q": (1, 1), "p": (0, 0)}])
OTHER = Rule([{"q": (1, 0), "p": (0, 0)}])
STAYING = Rule([{"q": (0, 0), "p": (0, 0)}])
MIXTURE = Mixture([(3, RULE), (2, OTHER)])
SOURCE = Source([{"q": (1, 0), "p": (1, 0)}])
UNFIT = Rule([{"q": (0, 0), "p": (0, 0)}, {"q": (0, 0), "p": (3, 0)}])
UNFIT_TOO = Rule([{"q": (2, 0), "p": (0, 0)}])
UNFIT_SOURCE = Source([{"q": (1, 1)}, {"z": (1, 0), "r": (1, 0), "p": (1, 0)}])
# "p" comes in the state 0 only.
TURNING = Source([{"q": (3, 1), "p": (1, 0)}, {"q": (2, 0)}])


def told_of_mixture(live):
    return [getattr(live, name)() for name in ("paid", "best", "debts", "left", "allowance", "drawn")]


def told_of_source(live):
    return [getattr(live, name)() for name in ("table", "position", "paid", "due", "luck")]


class MixturesBesidePlainOnes(unittest.TestCase):
    def begin(self, draw):
        """A live mixture and a plain one that can begin."""
        while True:
            make = draw.choice([dear_system, dear_system, drawn_system])
            system = make(draw, *draw.choice([(1, 2), (2, 1), (2, 2), (2, 3), (3, 1), (3, 2), (4, 1)]))
            rules = drawn_rules(draw, system, draw.randint(1, 3))
            if rules is None or joint_by_hand(system, rules, 60) is None:
                continue
            mixture = Mixture([(draw.choice([1, 1, 2, 3, 10 ** 22 + 1]), rule) for rule in rules])
            some_factor = draw.choice([(8, 1), (8, 1), (17, 2), (4, 1), (10 ** 22 + 1, 10 ** 21)])
            made = outcome(lambda: LiveMixture(system, mixture, some_factor))
            plain = outcome(lambda: PlainMixture(system, mixture, some_factor))
            if not isinstance(made, list):
                return made, plain, some_factor
            self.assertEqual(made, plain)

    def call(self, draw, plain):
        """The name of a method that is called next, and its argument."""
        name = draw.choice(["serve"] * 6 + ["draw", "mark", "back", "back"])
        if name == "serve":
            return name, [draw.choice(list(plain.system.names) * 6 + NAMES + ["zz", None, 0, ["a"], ("a",)])]
        if name == "draw":
            whole = sum(plain.weights)
            edges = [sum(plain.weights[:at]) + by for at in range(len(plain.weights) + 1) for by in (-1, 0)]
            return name, [draw.choice(edges + [draw.randrange(whole), None, True, False, "0", (0,), 10 ** 30, -5])]
        if name == "mark":
            return name, []
        many = len(plain.marks)
        return name, [draw.choice(list(range(many)) * 3 + [many, -1, None, True, False, "0", (0,), 10 ** 30])]

    def test_behind_each_call(self):
        draw = Random(151)
        seen = {}
        for _ in range(120):
            live, plain, some_factor = self.begin(draw)
            for _ in range(60):
                name, arguments = self.call(draw, plain)
                found = outcome(lambda: getattr(live, name)(*arguments))
                wanted = outcome(lambda: getattr(plain, name)(*arguments))
                self.assertEqual(found, wanted, (name, arguments))
                self.assertEqual(told_of_mixture(live), plain.told())
                key = name, found[0] if isinstance(found, list) and found and isinstance(found[0], type) else True
                seen[key] = seen.get(key, 0) + 1
                self.judge(live, plain, some_factor)
        for key in product(("serve", "draw", "mark", "back"), (True,)):
            self.assertGreater(seen.get(key, 0), 100, key)
        for key in (("serve", UnknownKind), ("draw", UnknownDraw), ("draw", AlreadyDrawn), ("back", UnknownMark)):
            self.assertGreater(seen.get(key, 0), 100, key)

    def judge(self, live, plain, some_factor):
        """At each moment, what all rules have paid, weighed, and what is left are bounded by the best and the allowance."""
        top, bottom = some_factor
        weighed = sum(weight * paid for weight, paid in zip(plain.weights, live.paid()))
        whole = sum(plain.weights)
        self.assertLessEqual(bottom * weighed + live.left(), top * whole * live.best() + live.allowance())


class LiveMixtures(unittest.TestCase):
    def test_a_row(self):
        for system, mixture, _ in drawn_mixtures(152, 2, [(1, 2), (2, 2), (2, 3), (3, 2), (4, 2)]):
            least = mixture_factor(system, mixture)
            if least is None:
                self.assertEqual(outcome(lambda: LiveMixture(system, mixture, (10 ** 9, 1))), [TooDear, {}])
                continue
            live = LiveMixture(system, mixture, least)
            row = long_row(system, 25)
            for at, kind in enumerate(row):
                ahead = live.paid()
                steps = live.serve(kind)
                self.assertEqual([type(steps), type(steps[0])], [list, tuple])
                self.assertEqual([paid for _, paid in steps], [now - before for now, before in zip(live.paid(), ahead)])
                self.assertEqual(live.paid(), [cost(system, rule, row[:at + 1]) for _, rule in mixture.parts()])
                self.assertEqual([live.best(), live.debts()], [best(system, row[:at + 1]), debts(system, row[:at + 1])])
            self.assertIsNone(live.drawn())

    def test_what_is_left_bounds_it(self):
        live = LiveMixture(TWO_MODES, MIXTURE, (9, 5))
        told = mixture_bounds(TWO_MODES, MIXTURE, (9, 5))
        least = min(told.values())
        self.assertLessEqual(live.left(), told[(0, 0), (0, 0), (0, None)] - least)
        self.assertEqual(told_of_mixture(live), [[0, 0], 0, (0, None), live.allowance(), live.allowance(), None])

    def test_by_hand(self):
        live = LiveMixture(TWO_MODES, MIXTURE, (9, 5))
        self.assertEqual([live.serve("q"), live.serve("p")], [[(0, 1), (1, 1)], [(0, 0), (0, 2)]])
        self.assertEqual([live.paid(), live.best(), live.draw(3), live.drawn()], [[1, 3], 1, 1, 1])
        self.assertEqual(live.serve("q"), [(0, 1), (1, 1)])
        self.assertEqual([live.paid(), live.best(), live.drawn()], [[2, 4], 2, 1])

    def test_draws(self):
        for number, place in ((0, 0), (2, 0), (3, 1), (4, 1)):
            live = LiveMixture(TWO_MODES, MIXTURE, (2, 1))
            self.assertEqual([live.drawn(), live.draw(number), live.drawn()], [None, place, place])
            for again in range(5):
                self.assertEqual(outcome(lambda: live.draw(again)), [AlreadyDrawn, {}])
            for wrong in (5, -1, None, True):
                self.assertEqual(outcome(lambda: live.draw(wrong)), [UnknownDraw, {"number": wrong}])
            self.assertEqual(live.drawn(), place)
        huge = 10 ** 5000
        parts = [(huge, RULE), (1, OTHER), (huge + 7, STAYING)]
        system = System([[0, 0], [0, 0]], {"q": [1, 1], "p": [1, 1]})
        for number, place in ((0, 0), (huge - 1, 0), (huge, 1), (huge + 1, 2), (2 * huge + 7, 2)):
            self.assertEqual(LiveMixture(system, Mixture(parts), (1, 1)).draw(number), place)
        self.assertEqual(outcome(lambda: LiveMixture(system, Mixture(parts), (1, 1)).draw(2 * huge + 8))[0], UnknownDraw)

    def test_values_that_are_no_draws(self):
        live = LiveMixture(TWO_MODES, MIXTURE, (2, 1))
        for drawn in (False, True):
            if drawn:
                live.draw(0)
            for value in odd_values() + [5, -1, (0,), [0], "0", RULE]:
                with self.assertRaises(UnknownDraw) as caught:
                    live.draw(value)
                self.assertIs(caught.exception.number, value)
                self.assertEqual(live.drawn(), 0 if drawn else None)

    def test_a_mark_ahead_of_a_draw(self):
        live = LiveMixture(TWO_MODES, MIXTURE, (2, 1))
        self.assertEqual(live.mark(), 0)
        live.serve("q")
        ahead = told_of_mixture(live)
        self.assertEqual(live.mark(), 1)
        live.draw(4)
        live.serve("p")
        self.assertEqual(live.mark(), 2)
        behind = told_of_mixture(live)
        live.serve("q")
        self.assertIsNone(live.back(2))
        self.assertEqual(told_of_mixture(live), behind)
        self.assertIsNone(live.back(1))
        self.assertEqual(told_of_mixture(live), ahead)
        self.assertEqual(outcome(lambda: live.back(2)), [UnknownMark, {"number": 2}])
        self.assertEqual([live.draw(0), live.drawn()], [0, 0])
        live.back(0)
        self.assertEqual([live.drawn(), live.paid(), live.mark()], [None, [0, 0], 1])

    def test_unknown_kinds_and_marks(self):
        live = LiveMixture(TWO_MODES, MIXTURE, (2, 1))
        live.serve("q")
        now = told_of_mixture(live)
        for value in odd_values() + [["q"], ("q",), "Q", "qq", 0, RULE]:
            if value not in ("p", "q"):
                with self.assertRaises(UnknownKind) as caught:
                    live.serve(value)
                self.assertIs(caught.exception.kind, value)
            with self.assertRaises(UnknownMark) as caught:
                live.back(value)
            self.assertIs(caught.exception.number, value)
            self.assertEqual(told_of_mixture(live), now)
        live.mark()
        for value in (1, -1, True, False, "0", None):
            self.assertEqual(outcome(lambda: live.back(value)), [UnknownMark, {"number": value}])

    def test_what_is_told_is_new_and_stays(self):
        live = LiveMixture(TWO_MODES, MIXTURE, (2, 1))
        live.mark()
        told = live.paid()
        steps = live.serve("q")
        paid = live.paid()
        self.assertEqual([told, paid], [[0, 0], [1, 1]])
        paid.append(7)
        paid[0] = 99
        steps.clear()
        self.assertEqual(live.paid(), [1, 1])
        live.back(0)
        live.paid().clear()
        self.assertEqual([live.paid(), live.serve("q")], [[0, 0], [(0, 1), (1, 1)]])

    def test_which_error_is_first(self):
        for value in ((2, 1), (2, 2), None):
            self.assertEqual(outcome(lambda: LiveMixture(TWO_MODES, Mixture([(1, RULE), (1, UNFIT), (1, UNFIT_TOO)]), value)),
                             [Unfit, {"place": 1, "kind": "p"}])
            self.assertEqual(outcome(lambda: LiveMixture(TWO_MODES, Mixture([(1, UNFIT_TOO), (1, UNFIT)]), value)),
                             [Unfit, {"place": 0, "kind": "q"}])
            last = Rule([{"a": (0, 0), "b": (0, 0), "c": (0, 0), "d": (3, 0)}])
            mixture = Mixture([(1, rule) for rule in ONE_MORE_RULES + [last]])
            self.assertEqual(outcome(lambda: LiveMixture(ONE_MORE, mixture, value)), [Unfit, {"place": 0, "kind": "d"}])
        many = Mixture([(1, rule) for rule in ONE_MORE_RULES])
        for value in wrong_factors():
            for system, mixture in ((TWO_MODES, MIXTURE), (ONE_MORE, many), (TWO_MODES, Mixture([(1, STAYING)]))):
                self.assertEqual(outcome(lambda: LiveMixture(system, mixture, value)), [BadFactor, {}])
        for value in ((1, 1), (10 ** 30, 1)):
            self.assertEqual(outcome(lambda: LiveMixture(ONE_MORE, many, value)), [TooManyStates, {}])
        self.assertEqual(outcome(lambda: LiveMixture(TWO_MODES, MIXTURE, (8, 5))), [TooDear, {}])
        self.assertEqual(outcome(lambda: LiveMixture(TWO_MODES, Mixture([(1, STAYING), (9, RULE)]), (10 ** 30, 1))), [TooDear, {}])

    def test_a_thousand_joint_spots_and_thousands_of_calls(self):
        mixture = Mixture(list(zip((3 * 10 ** 25 + 1, 7, 10 ** 24 + 9), THOUSAND_RULES)))
        self.assertEqual(len(joint_by_hand(THOUSAND, THOUSAND_RULES)), 1000)
        least = mixture_factor(THOUSAND, mixture)
        begun = time.monotonic()
        live = outcome(lambda: LiveMixture(THOUSAND, mixture, least or (10 ** 9, 1)))
        if least is None:
            self.assertEqual(live, [TooDear, {}])
            live = LiveMixture(TWO_MODES, MIXTURE, (9, 5))
        names = [name for name in (THOUSAND if least else TWO_MODES).names]
        for at in range(5000):
            live.serve(names[at * at % len(names)])
            told_of_mixture(live)
            live.back(live.mark())
        self.assertLess(time.monotonic() - begun, 20)

    def test_by_name(self):
        live = LiveMixture(some_factor=(9, 5), mixture=MIXTURE, system=TWO_MODES)
        self.assertEqual([live.serve(kind="q"), live.draw(number=0), live.mark(), live.back(number=0)], [[(0, 1), (1, 1)], 0, 0, None])


class SourcesBesidePlainOnes(unittest.TestCase):
    def test_behind_each_call(self):
        draw = Random(153)
        seen = {}
        for _ in range(150):
            make = draw.choice([dear_system, drawn_system])
            system = make(draw, draw.randint(1, 4), draw.randint(1, 4))
            rule = draw.choice([parted_rule(draw, system), drawn_rule(draw, system, draw.randint(1, 8))])
            source = some_source(draw, list(system.names), draw.randint(1, 4))
            live = outcome(lambda: LiveSource(system, source, rule))
            plain = outcome(lambda: PlainSource(system, source, rule))
            if isinstance(live, list):
                self.assertEqual(live, plain)
                continue
            for _ in range(40):
                kinds = [kind for kind, _, _ in draws_by_hand(source, plain.position[0])]
                kind = draw.choice(kinds * 5 + list(system.names) + ["zz", None, 0, ["a"], ("a",), ""])
                found, wanted = outcome(lambda: live.serve(kind)), outcome(lambda: plain.serve(kind))
                self.assertEqual(found, wanted)
                self.assertEqual(told_of_source(live), plain.told())
                key = found[0] if isinstance(found, list) else True
                seen[key] = seen.get(key, 0) + 1
                self.judge(live)
        for key in (True, UnknownKind, NotDrawn):
            self.assertGreater(seen.get(key, 0), 100, key)

    def judge(self, live):
        """What was paid is what was due, and all luck, and the offset of the beginning, less that of now."""
        table = live.table()
        offset = Fraction(*table[0, 0, 0][1]) - Fraction(*table[live.position()][1])
        self.assertEqual(live.paid(), Fraction(*live.due()) + Fraction(*live.luck()) + offset)


class LiveSources(unittest.TestCase):
    def test_the_luck_of_the_next_request_is_nothing_on_average(self):
        draw = Random(154)
        for _ in range(40):
            system = drawn_system(draw, draw.randint(1, 3), draw.randint(1, 3))
            rule = drawn_rule(draw, system, draw.randint(1, 4))
            source = some_source(draw, list(system.names), draw.randint(1, 3))
            row = []
            for _ in range(6):
                lucks = Fraction(0)
                for kind, odds, _ in draws_by_hand(source, self.after(system, source, rule, row).position()[0]):
                    lucks += odds * (Fraction(*self.after(system, source, rule, row + [kind]).luck())
                                     - Fraction(*self.after(system, source, rule, row).luck()))
                self.assertEqual(lucks, 0)
                place = self.after(system, source, rule, row).position()[0]
                row.append(draw.choice([kind for kind, _, _ in draws_by_hand(source, place)]))

    def after(self, system, source, rule, row):
        live = LiveSource(system, source, rule)
        for kind in row:
            live.serve(kind)
        return live

    def test_the_beginning_and_kinds_of_values(self):
        live = LiveSource(TWO_MODES, SOURCE, RULE)
        self.assertEqual(told_of_source(live), [rule_table(TWO_MODES, RULE, SOURCE), (0, 0, 0), 0, (0, 1), (0, 1)])
        self.assertEqual([type(value) for value in told_of_source(live)], [dict, tuple, int, tuple, tuple])
        self.assertEqual([type(value) for value in live.due() + live.luck()], [int] * 4)

    def test_by_hand(self):
        live = LiveSource(TWO_MODES, SOURCE, RULE)
        self.assertEqual([live.serve("q"), live.serve("q"), live.serve("p")], [(0, 1), (1, 1), (0, 2)])
        self.assertEqual([live.position(), live.paid(), live.due(), live.luck()], [(0, 0, 0), 4, (15, 8), (17, 8)])

    def test_not_drawn_behind_unknown_kind(self):
        live = LiveSource(TWO_MODES, TURNING, RULE)
        live.serve("q")
        now = told_of_source(live)
        self.assertEqual(live.position(), (1, 1, 0))
        self.assertEqual(outcome(lambda: live.serve("p")), [NotDrawn, {"kind": "p"}])
        for value in odd_values() + [["q"], ("q",), "Q", "qq", 0, RULE]:
            if value not in ("p", "q"):
                with self.assertRaises(UnknownKind) as caught:
                    live.serve(value)
                self.assertIs(caught.exception.kind, value)
            self.assertEqual(told_of_source(live), now)
        self.assertEqual(live.serve("q"), (1, 1))
        # The system has the kind, and no state of the source has it.
        live = LiveSource(TWO_MODES, Source([{"q": (1, 0)}]), RULE)
        self.assertEqual(outcome(lambda: live.serve("p")), [NotDrawn, {"kind": "p"}])
        self.assertEqual(live.paid(), 0)

    def test_which_error_is_first(self):
        for source in (SOURCE, UNFIT_SOURCE):
            self.assertEqual(outcome(lambda: LiveSource(TWO_MODES, source, UNFIT)), [Unfit, {"place": 1, "kind": "p"}])
        self.assertEqual(outcome(lambda: LiveSource(TWO_MODES, UNFIT_SOURCE, RULE)), [UnfitSource, {"place": 1, "kind": "r"}])
        states = [{kind.replace("b", "zz"): step for kind, step in state.items()} for state in MORE_SOURCE.states()]
        self.assertEqual(outcome(lambda: LiveSource(MORE_SYSTEM, Source(states), MORE_RULE)), [UnfitSource, {"place": 0, "kind": "zz"}])
        self.assertEqual(len(rule_positions_by_hand(MORE_SYSTEM, MORE_RULE, MORE_SOURCE)), 81)
        self.assertEqual(outcome(lambda: LiveSource(MORE_SYSTEM, MORE_SOURCE, MORE_RULE)), [TooManyStates, {}])

    def test_eighty_positions_and_thousands_of_calls(self):
        begun = time.monotonic()
        live = LiveSource(EIGHTY_SYSTEM, EIGHTY_SOURCE, EIGHTY_RULE)
        self.assertEqual(len(live.table()), 80)
        draw = Random(155)
        for _ in range(3000):
            kinds = sorted(EIGHTY_SOURCE.states()[live.position()[0]])
            live.serve(draw.choice(kinds))
            self.assertEqual(type(live.due() + live.luck()), tuple)
        self.assertLess(time.monotonic() - begun, 20)
        average = Fraction(*live.due()) / 3000
        self.assertEqual(average, Fraction(*live.table()[0, 0, 0][0]))

    def test_parts_that_are_never_left(self):
        for kind, rate in (("q", Fraction(1, 2)), ("p", Fraction(1))):
            live = LiveSource(TWO_MODES, SOURCE, PARTED)
            live.serve(kind)
            self.assertEqual(live.due(), (3, 4))
            for _ in range(4):
                live.serve("p")
            self.assertEqual(Fraction(*live.due()), Fraction(3, 4) + 4 * rate)

    def test_the_table_is_new_each_time(self):
        live = LiveSource(TWO_MODES, SOURCE, RULE)
        live.table().clear()
        self.assertEqual(live.table(), rule_table(TWO_MODES, RULE, SOURCE))
        self.assertIsNot(live.table(), live.table())
        live.serve("q")
        live.table()[0, 0, 0] = None
        self.assertEqual([live.serve("p"), live.due()], [(0, 0), (5, 4)])

    def test_by_name_and_other_systems(self):
        live = LiveSource(rule=RULE, source=SOURCE, system=TWO_MODES)
        self.assertEqual(live.serve(kind="q"), (0, 1))
        live = LiveSource(ONE_MODE, Source([{"a": (9, 0)}]), Rule([{"a": (0, 0)}]))
        self.assertEqual([live.serve("a"), live.due(), live.luck()], [(0, 3), (3, 1), (0, 1)])
        rule = Rule([{"a": (0, 0), "b": (2, 0), "c": (2, 0)}])
        live = LiveSource(IDLE_MODE, Source([{"a": (1, 0), "b": (1, 0)}]), rule)
        self.assertEqual([live.serve("b"), live.position()], [(2, 6), (0, 0, 2)])
        self.assertEqual(start_of(IDLE_MODE), (0, None, None))


if __name__ == "__main__":
    unittest.main()
