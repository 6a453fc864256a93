"""Point 23, and what points 3, 4 and 32 say of it."""

import copy
import time
import unittest
from fractions import Fraction
from itertools import product
from random import Random

from chance_reckoning import (
    chance_by_hand, doubled_source, drawn_source, round_source, rows_that_can_come, some_source, told,
)
from helpers import FOUR_MODES, ONE_MODE, TWO_MODES, odd_values
from joint_reckoning import outcome
from latewise.errors import BadSource, UnfitSource
from latewise.rules import Rule
from latewise.sources import Source, chance, check_source, parting_draws, reduced_source

SOURCE = Source([{"q": (2, 0), "p": (1, 1)}, {"q": (1, 0)}])
NAMES = ["a", "bb", "ccc", "abcdefgh"]


def sources(seed, many, names=NAMES[:3]):
    """So many drawn sources of each number of states."""
    draw = Random(seed)
    return [some_source(draw, names[:draw.randint(1, len(names))], states) for states in range(1, 5) for _ in range(many)]


def multiplied(source, by):
    """The source with the parts of each state multiplied, where none of them gets too great."""
    states = []
    for place, state in enumerate(source.states()):
        factor = by if place % 2 == 0 and max(part for part, _ in state.values()) * by <= 9 else 1
        states.append({kind: (part * factor, following) for kind, (part, following) in state.items()})
    return Source(states)


class Sources(unittest.TestCase):
    def wrong_states(self):
        """Values that are no states of a source."""
        good = {"q": (2, 0), "p": (1, 1)}
        one = {"q": (1, 0)}
        wrong = [
            [], [{}], [one, {}], (one,), {"q": (1, 0)}, [[("q", (1, 0))]], [("q", (1, 0))], [one, one],
            [good, {"q": (1, 1)}], [good, {"q": (1, 1), "p": (1, 1)}], [{"q": (1, 0), "p": (1, 0)}, one],
            [{"q": (1, 1)}, {"q": (1, 2)}, {"q": (1, 1)}], [{"q": (1, 1)}, {"q": (1, 0)}, {"q": (1, 0)}],
            [{"q": (1, 1)}, {"q": (1, 2)}, {"q": (1, 3)}, {"q": (1, 4)}, {"q": (1, 0)}],
            [{"q": (1, 1)}], [{"q": (1, -1)}], [{"q": (0, 0)}], [{"q": (10, 0)}], [{"q": (-1, 0)}], [{"q": (True, 0)}],
            [{"q": (1, False)}], [{"q": (1, True)}, {"q": (1, 0)}], [{"q": [1, 0]}], [{"q": (1,)}], [{"q": (1, 0, 0)}],
            [{"q": 1}], [{"q": ("1", 0)}], [{"q": (1, "0")}], [{"q": (None, 0)}], [{"q": (1, None)}], [{"q": ((1,), 0)}],
            [{"": (1, 0)}], [{"abcdefghi": (1, 0)}], [{"Q": (1, 0)}], [{"q1": (1, 0)}], [{"q ": (1, 0)}], [{0: (1, 0)}],
            [{None: (1, 0)}], [{("q",): (1, 0)}], [{"\u00e4": (1, 0)}], [{"q\n": (1, 0)}], [{True: (1, 0)}],
            [{"a": (1, 0), "b": (1, 0), "c": (1, 0), "d": (1, 0), "e": (1, 0)}], [{**one, 1: (1, 0)}],
            [one, None], [None], Rule([{"q": (1, 0)}]), [Rule([{"q": (1, 0)}])], "states", 4, SOURCE, [SOURCE],
        ]
        for value in odd_values():
            wrong += [value, [value], [value, one], [{"q": (1, 1)}, value], [{"q": value}], [{"q": (1, value)}] if value != 0 else 0]
            if type(value) is not int or not 1 <= value <= 9:
                wrong.append([{"q": (value, 0)}])
        return wrong

    def test_wrong_states(self):
        for value in self.wrong_states():
            with self.assertRaises(BadSource):
                Source(value)

    def test_right_states(self):
        right = [
            [{"q": (1, 0)}], [{"q": (9, 0), "p": (1, 0)}], [{"abcdefgh": (9, 1)}, {"z": (3, 0), "a": (1, 1)}],
            [{"a": (1, 0), "b": (2, 0), "c": (3, 0), "d": (4, 0)}],
            [{"a": (1, 1), "b": (2, 1), "c": (3, 1), "d": (4, 1)}, {"e": (1, 0), "f": (2, 0), "g": (3, 0), "h": (4, 0)}],
            [{"q": (1, 1)}, {"q": (1, 2)}, {"q": (1, 3)}, {"p": (1, 0), "q": (5, 3)}],
            [{"q": (1, 1), "p": (1, 2)}, {"q": (1, 0)}, {"q": (1, 0)}],
        ]
        for states in right:
            source = Source(states)
            self.assertEqual(source.states(), states)
            self.assertEqual(Source(source.states()), source)
            self.assertEqual([type(source.states()), type(source.states()[0])], [list, dict])

    def test_copies_are_kept(self):
        states = [{"q": (2, 0), "p": (1, 1)}, {"q": (1, 0)}]
        source = Source(states)
        states[0]["q"] = (9, 1)
        states[1].clear()
        states.append(7)
        self.assertEqual(source, SOURCE)
        source.states()[0].clear()
        source.states().clear()
        self.assertEqual(source.states(), [{"q": (2, 0), "p": (1, 1)}, {"q": (1, 0)}])

    def test_equal_ones(self):
        self.assertTrue(SOURCE == Source([{"p": (1, 1), "q": (2, 0)}, {"q": (1, 0)}]))
        self.assertFalse(SOURCE != Source([{"p": (1, 1), "q": (2, 0)}, {"q": (1, 0)}]))
        others = [
            [{"p": (1, 1), "q": (2, 0)}, {"q": (2, 0)}], [{"p": (1, 1), "q": (3, 0)}, {"q": (1, 0)}],
            [{"p": (1, 1), "q": (2, 0)}, {"p": (1, 0)}], [{"p": (1, 1), "q": (2, 1)}, {"q": (1, 0)}], [{"q": (1, 0)}],
        ]
        for states in others:
            self.assertTrue(SOURCE != Source(states))
            self.assertFalse(SOURCE == Source(states))
        rule = Rule([{"q": (1, 0)}])
        source = Source([{"q": (1, 0)}])
        for value in odd_values() + [rule, SOURCE.states(), TWO_MODES, "source", [SOURCE]]:
            for one in (source, SOURCE):
                self.assertFalse(one == value)
                self.assertTrue(one != value)
                self.assertFalse(value == one)


class Fits(unittest.TestCase):
    def test_fitting(self):
        for source in (SOURCE, Source([{"p": (1, 0)}])):
            self.assertIsNone(check_source(TWO_MODES, source))
        for source in sources(101, 5, list(FOUR_MODES.names)):
            self.assertIsNone(check_source(FOUR_MODES, source))

    def test_the_first_state_and_kind(self):
        for states, place, kind in (
            ([{"r": (1, 0)}], 0, "r"), ([{"q": (1, 1)}, {"z": (1, 0), "r": (1, 0), "p": (1, 0)}], 1, "r"),
            ([{"zz": (1, 1), "p": (1, 0), "b": (1, 0)}, {"a": (1, 0)}], 0, "b"), ([{"a": (1, 0), "pp": (1, 0), "q": (1, 0)}], 0, "a"),
        ):
            with self.assertRaises(UnfitSource) as caught:
                check_source(TWO_MODES, Source(states))
            self.assertEqual((caught.exception.place, caught.exception.kind), (place, kind))

    def test_by_name(self):
        self.assertIsNone(check_source(source=SOURCE, system=TWO_MODES))
        self.assertEqual(outcome(lambda: check_source(ONE_MODE, SOURCE)), [UnfitSource, {"place": 0, "kind": "p"}])


class Chances(unittest.TestCase):
    def test_all_rows_up_to_a_length(self):
        for source in sources(102, 4):
            for many in range(5):
                whole = 0
                for row in product(NAMES[:3] + ["zz"], repeat=many) if many < 4 else rows_that_can_come(source, many):
                    found = chance(source, list(row))
                    self.assertEqual(found, told(chance_by_hand(source, row)[0]))
                    self.assertEqual([type(found)] + [type(part) for part in found], [tuple, int, int])
                    whole += Fraction(*found)
                self.assertEqual(whole, 1)

    def test_by_hand(self):
        self.assertEqual([chance(SOURCE, ["q", "p", "q"]), chance(SOURCE, ["p", "p"]), chance(SOURCE, [])], [(2, 9), (0, 1), (1, 1)])
        self.assertEqual([chance(SOURCE, row) for row in (["z"], ["q", ""], ["q", "Q", "q"], ["p", "q", "zzzzzzzzzz"])], [(0, 1)] * 4)
        self.assertEqual(chance(Source([{"a": (9, 0)}]), ["a"] * 50), (1, 1))
        self.assertEqual(chance(Source([{"a": (2, 0), "b": (6, 0)}]), ["b", "a", "b"]), (9, 64))

    def test_many_thousand_requests(self):
        begun = time.monotonic()
        self.assertEqual(chance(SOURCE, ["q", "p", "q"] * 7000), (2 ** 7000, 9 ** 7000))
        self.assertEqual(chance(SOURCE, ["q", "p", "q"] * 7000 + ["p", "p"]), (0, 1))
        self.assertLess(time.monotonic() - begun, 20)

    def test_by_name(self):
        row = ["q", "p"]
        self.assertEqual(chance(row=row, source=SOURCE), (2, 9))
        self.assertEqual(row, ["q", "p"])


class PartingDraws(unittest.TestCase):
    def shortest(self, first, second, longest):
        """The least number of requests of rows with different chances, up to a length; None if there are none."""
        names = sorted({kind for source in (first, second) for state in source.states() for kind in state})
        for many in range(longest + 1):
            for row in product(names, repeat=many):
                if chance_by_hand(first, row)[0] != chance_by_hand(second, row)[0]:
                    return many
        return None

    def judge(self, first, second, longest=6):
        row = parting_draws(first, second)
        wanted = self.shortest(first, second, longest if row is None else len(row))
        if row is None:
            self.assertIsNone(wanted)
        else:
            self.assertIs(type(row), list)
            self.assertEqual(len(row), wanted)
            self.assertNotEqual(chance_by_hand(first, row)[0], chance_by_hand(second, row)[0])
        return wanted

    def test_all_rows_tried_out(self):
        draw = Random(103)
        seen = {}
        for _ in range(150):
            names = NAMES[:draw.randint(1, 2)]
            first = some_source(draw, names, draw.randint(1, 4))
            second = some_source(draw, draw.choice([names, NAMES[:2], NAMES[1:3]]), draw.randint(1, 4))
            seen[self.judge(first, second)] = True
        self.assertTrue({None, 1, 2} <= set(seen))

    def test_sources_that_are_nearly_alike(self):
        draw = Random(104)
        seen = {}
        for _ in range(120):
            first = drawn_source(draw, NAMES[:2], draw.randint(1, 2))
            states = doubled_source(draw, first).states()
            state = draw.choice(states)
            kind = draw.choice(sorted(state))
            states[states.index(state)] = {**state, kind: (draw.randint(1, 9), draw.randrange(len(states)))}
            second = outcome(lambda: Source(states))
            if isinstance(second, Source):
                seen[self.judge(first, second)] = True
        self.assertTrue({None, 1, 2, 3} <= set(seen))

    def test_sources_that_draw_alike(self):
        draw = Random(105)
        for source in sources(106, 8):
            for other in (source, Source(source.states()), doubled_source(draw, source), multiplied(source, 2), multiplied(source, 3)):
                self.assertIsNone(parting_draws(source, other))
                self.assertIsNone(parting_draws(other, source))

    def test_a_long_way(self):
        first = Source([{"a": (1, 1)}, {"a": (1, 2)}, {"a": (1, 3)}, {"a": (1, 0)}])
        second = Source([{"a": (1, 1)}, {"a": (1, 2)}, {"a": (1, 3)}, {"a": (8, 0), "b": (1, 0)}])
        self.assertEqual(len(parting_draws(first, second)), 4)
        self.assertIsNone(parting_draws(first, Source([{"a": (5, 0)}])))
        third = Source([{"a": (1, 1)}, {"a": (1, 2)}, {"a": (1, 0), "b": (1, 1)}])
        self.judge(second, third, 12)
        one, other = Source([{"a": (1, 1)}, {"a": (1, 2)}, {"b": (1, 0)}]), Source([{"a": (1, 1)}, {"a": (1, 2)}, {"b": (1, 3)}, {"b": (1, 0)}])
        self.assertEqual(len(parting_draws(one, other)), 4)

    def test_other_kinds(self):
        self.assertEqual(len(parting_draws(Source([{"a": (1, 0)}]), Source([{"b": (1, 0)}]))), 1)
        self.assertEqual(parting_draws(Source([{"a": (1, 0)}]), Source([{"a": (1, 0), "b": (9, 0)}])) in (["a"], ["b"]), True)

    def test_by_name(self):
        self.assertIsNone(parting_draws(second=SOURCE, first=SOURCE))
        row = parting_draws(SOURCE, Source([{"q": (1, 0)}]))
        row.append("q")
        self.assertEqual(len(parting_draws(SOURCE, Source([{"q": (1, 0)}]))), 1)


class ReducedSources(unittest.TestCase):
    def least_states(self, source):
        """How many states draw differently, by the chances of all rows of so many requests as can tell them apart."""
        names = sorted({kind for state in source.states() for kind in state})
        rows = [row for many in range(4) for row in product(names, repeat=many)]
        return len({tuple(chance_by_hand(source, row, state)[0] for row in rows) for state in range(len(source.states()))})

    def test_of_each_size(self):
        seen = {}
        draw = Random(107)
        for source in sources(108, 25) + [doubled_source(draw, one) for one in sources(109, 10, NAMES[:2])]:
            reduced = reduced_source(source)
            self.assertIs(type(reduced), Source)
            self.assertEqual(len(reduced.states()), self.least_states(source))
            self.assertIsNone(parting_draws(source, reduced))
            for row in rows_that_can_come(source, 4):
                self.assertEqual(chance_by_hand(source, row)[0], chance_by_hand(reduced, row)[0])
            self.assertEqual(Source(reduced.states()), reduced)
            seen[len(source.states()), len(reduced.states())] = True
        self.assertTrue({(1, 1), (2, 1), (2, 2), (3, 3), (4, 1), (4, 2), (4, 4)} <= set(seen))

    def test_by_hand(self):
        self.assertEqual(reduced_source(Source([{"a": (1, 1)}, {"a": (7, 2)}, {"a": (9, 0)}])).states()[0]["a"][1], 0)
        self.assertEqual(len(reduced_source(SOURCE).states()), 2)
        source = Source([{"a": (2, 1), "b": (4, 2)}, {"a": (1, 2), "b": (2, 0)}, {"a": (3, 0), "b": (6, 1)}])
        self.assertEqual(len(reduced_source(source).states()), 1)
        # The state 0 comes again after an even number of requests only, but draws as the state 2 does.
        around = Source([{"a": (1, 1)}, {"b": (1, 2)}, {"a": (1, 3)}, {"b": (1, 0)}])
        self.assertEqual(len(reduced_source(around).states()), 2)
        self.assertEqual(len(reduced_source(Source([{"a": (1, 1)}, {"a": (1, 2)}, {"a": (1, 3)}, {"b": (1, 0)}])).states()), 4)

    def test_it_is_no_source_of_one_rounds_length_less(self):
        draw = Random(110)
        for many in range(1, 5):
            source = round_source(draw, NAMES[:2], many)
            self.assertEqual(len(reduced_source(source).states()), self.least_states(source))

    def test_arguments_stay(self):
        kept = copy.deepcopy(SOURCE.states())
        reduced_source(source=SOURCE).states()[0].clear()
        self.assertEqual(SOURCE.states(), kept)
        self.assertEqual(reduced_source(SOURCE), reduced_source(Source(kept)))


if __name__ == "__main__":
    unittest.main()
