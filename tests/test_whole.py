"""The whole document: its main facts, and functions of all stages that are asked of the same objects in turns."""

import copy
import unittest
from fractions import Fraction
from random import Random

from chance_reckoning import some_source
from helpers import long_row
from joint_reckoning import drawn_follows, drawn_rules, outcome
from latewise.averages import (
    best_average, best_table, expected_best, expected_cost, is_best_table, is_rule_table, mixture_average, rule_average,
    rule_table,
)
from latewise.compare import lead, parting_row
from latewise.drawn import LiveMixture, LiveSource
from latewise.factors import are_bounds, bad_loop, bounds, excess, factor, spots
from latewise.games import choices, have_factor, hold_factor, least_factor, requests
from latewise.hindsight import best, best_plan, debts, plan_cost
from latewise.known import known_factor, rule_factor
from latewise.live import Live
from latewise.mixing import are_hard, best_mixture, hard_loops
from latewise.mixtures import (
    Mixture, are_mixture_bounds, mixed_cost, mixture_bounds, mixture_factor, mixture_loop,
)
from latewise.prices import are_prices, keep_prices, least_average, prices_with_orders, shown_factor
from latewise.rules import Rule, cost, modes_of
from latewise.smallest import reduced, smallest_rule
from latewise.sources import Source, check_source, parting_draws, reduced_source
from latewise.systems import System
from reckoning import drawn_rule, drawn_system

ROW = long_row(System([[0]], {"a": [0], "b": [0]}), 12)
FACTOR = (5, 2)


def live_told(system, rule, other):
    """What a live machine tells behind some calls."""
    live = Live(system, rule, (8, 1))
    told = [live.serve(kind) for kind in ROW] + [live.mark(), outcome(lambda: live.change_rule(other)), live.rule() == other]
    told += [live.paid(), live.best(), live.debts(), live.left(), live.allowance(), len(live.worst_row()) >= 0]
    live.back(0)
    return told + [live.paid(), live.mode(), live.state(), live.allowance()]


def live_mixture_told(system, mixture):
    """What a live mixture tells behind some calls."""
    live = LiveMixture(system, mixture, (8, 1))
    return [live.serve(kind) for kind in ROW] + [live.draw(0), live.paid(), live.best(), live.debts(), live.left(), live.allowance()]


def live_source_told(system, source, rule):
    """What a live source tells behind some calls."""
    live = LiveSource(system, source, rule)
    return [outcome(lambda: live.serve(kind)) for kind in ROW] + [live.position(), live.paid(), live.due(), live.luck(), live.table()]


def asked(system, rule, other, mixture, source, follows):
    """Calls of all stages whose results are told alone, or are judged by another function."""
    def judged_bounds():
        told = bounds(system, rule, FACTOR)
        return told is None or are_bounds(system, rule, FACTOR, told)

    def judged_mixture_bounds():
        told = mixture_bounds(system, mixture, FACTOR)
        return told is None or are_mixture_bounds(system, mixture, FACTOR, told)

    def judged_hard_loops():
        rules = [rule, other]
        told, loops = best_mixture(system, rules), hard_loops(system, rules)
        least = told and mixture_factor(system, told)
        return least, loops is None or are_hard(system, rules, loops, least)

    def judged_prices():
        least = least_average(system, source)
        some_prices, orders = prices_with_orders(system, source)
        return least, are_prices(system, source, least, some_prices), keep_prices(system, source, least, some_prices, orders)

    def judged_tables():
        table, best_one = rule_table(system, rule, source), best_table(system, source)
        return table, best_one, is_rule_table(system, rule, source, table), is_best_table(system, source, best_one)

    def judged_game():
        least, some_choices, some_requests = least_factor(system), choices(system), requests(system)
        kept = some_choices is None or have_factor(system, some_choices, least)
        return least, kept, some_requests is None or hold_factor(system, some_requests, least)

    return [
        lambda: (best(system, ROW), debts(system, ROW), plan_cost(system, ROW, best_plan(system, ROW))),
        lambda: (cost(system, rule, ROW), modes_of(system, rule, ROW)), lambda: sorted(spots(system, rule), key=repr),
        lambda: (factor(system, rule), bad_loop(system, rule) is None, excess(system, rule, FACTOR)), judged_bounds,
        lambda: (parting_row(system, rule, other) is None, lead(system, rule, other)), judged_game,
        lambda: smallest_rule(system, FACTOR, 1) is None, lambda: reduced(system, rule),
        lambda: [known_factor(system, known, follows) for known in (0, 1)], lambda: known_factor(system, 2, None),
        lambda: (rule_factor(system, rule, follows), rule_factor(system, rule, None)),
        lambda: live_told(system, rule, other), lambda: (mixed_cost(system, mixture, ROW), mixture_factor(system, mixture)),
        lambda: mixture_loop(system, mixture) is None, judged_mixture_bounds, judged_hard_loops,
        lambda: (check_source(system, source), parting_draws(source, reduced_source(source))),
        lambda: (expected_cost(system, rule, source, 9), expected_best(system, source, 9)),
        lambda: (rule_average(system, rule, source), best_average(system, source)),
        lambda: mixture_average(system, mixture, source), judged_tables, judged_prices, lambda: shown_factor(system, source),
        lambda: live_mixture_told(system, mixture), lambda: live_source_told(system, source, rule),
    ]


class InTurns(unittest.TestCase):
    def objects(self, draw):
        """Systems with the same kinds, rules that fit all of them, mixtures of these, and sources."""
        systems = [System(system.switches(), dict(zip("ab", system.kinds().values())))
                   for system in [drawn_system(draw, 2, 2, 100) for _ in range(3)]]
        rules = [drawn_rule(draw, systems[0], draw.randint(1, 3)) for _ in range(3)]
        mixtures = [Mixture([(draw.randint(1, 5), rule)]) for rule in rules]
        if rules[0] != rules[1]:
            mixtures.append(Mixture([(3, rules[1]), (4, rules[0])]))
        sources = [some_source(draw, ["a", "b"], draw.randint(1, 3)) for _ in range(3)]
        follows = [None, drawn_follows(draw, systems[0]), {"a": ["b"], "b": ["a", "b"]}]
        return systems, rules, mixtures, sources, follows

    def made_anew(self, system, rule, other, mixture, source, follows):
        """The same objects, made anew."""
        return (
            System(system.switches(), system.kinds()), Rule(rule.states()), Rule(other.states()),
            Mixture([(weight, Rule(one.states())) for weight, one in mixture.parts()]), Source(source.states()),
            copy.deepcopy(follows),
        )

    def test_each_answer_is_that_of_objects_made_anew(self):
        draw = Random(161)
        for _ in range(12):
            systems, rules, mixtures, sources, follows = self.objects(draw)
            kept = copy.deepcopy(follows)
            for _ in range(12):
                some = (draw.choice(systems), draw.choice(rules), draw.choice(rules), draw.choice(mixtures),
                        draw.choice(sources), draw.choice(follows))
                calls = asked(*some)
                anew = asked(*self.made_anew(*some))
                for at in draw.sample(range(len(calls)), 14):
                    self.assertEqual(outcome(calls[at]), outcome(anew[at]), at)
            self.assertEqual(follows, kept)

    def test_nothing_that_is_judged_is_refused(self):
        draw = Random(162)
        for _ in range(25):
            systems, rules, mixtures, sources, follows = self.objects(draw)
            for call in asked(systems[0], rules[0], rules[1], mixtures[-1], sources[0], follows[1]):
                told = outcome(call)
                if isinstance(told, tuple) and call.__name__.startswith("judged"):
                    self.assertNotIn(False, told)
                elif call.__name__.startswith("judged"):
                    self.assertIsNot(told, False)


class Facts(unittest.TestCase):
    def test_factors_and_averages_in_their_order(self):
        draw = Random(163)
        judged = {}
        for _ in range(150):
            system = drawn_system(draw, draw.randint(1, 3), draw.randint(1, 3), draw.choice([3, 100]))
            source = some_source(draw, list(system.names), draw.randint(1, 4))
            rules = drawn_rules(draw, system, draw.randint(1, 3))
            if rules is None:
                continue
            shown = outcome(lambda: shown_factor(system, source))
            mixture = outcome(lambda: best_mixture(system, rules))
            least = outcome(lambda: least_factor(system))
            self.at_most(judged, "shown and mixture", shown, mixture and outcome(lambda: mixture_factor(system, mixture)))
            self.at_most(judged, "shown and system", shown, least)
            for rule in rules:
                self.at_most(judged, "system and rule", least, outcome(lambda: factor(system, rule)))
                average = outcome(lambda: rule_average(system, rule, source))
                self.at_most(judged, "least and rule", least_average(system, source), average)
            self.at_most(judged, "best and least", outcome(lambda: best_average(system, source)), least_average(system, source))
        self.assertEqual(len(judged), 5)
        self.assertGreater(min(judged.values()), 20)

    def at_most(self, judged, name, first, second):
        """Judges that the first fraction is at most the second one, where None is more than all of them."""
        if isinstance(first, list) or isinstance(second, list) or second is None:
            return
        self.assertIsNotNone(first)
        self.assertLessEqual(Fraction(*first), Fraction(*second))
        judged[name] = judged.get(name, 0) + 1

    def test_a_mixture_pays_at_most_its_factor_on_what_a_source_draws(self):
        draw = Random(164)
        for _ in range(60):
            system = drawn_system(draw, draw.randint(1, 3), draw.randint(1, 3), 100)
            source = some_source(draw, list(system.names), draw.randint(1, 3))
            rules = drawn_rules(draw, system, draw.randint(1, 3))
            mixture = rules and Mixture([(draw.randint(1, 4), rule) for rule in rules])
            least = mixture and outcome(lambda: mixture_factor(system, mixture))
            paid = mixture and outcome(lambda: mixture_average(system, mixture, source))
            grown = outcome(lambda: best_average(system, source))
            if isinstance(least, tuple) and isinstance(paid, tuple) and isinstance(grown, tuple):
                self.assertLessEqual(Fraction(*paid), Fraction(*least) * Fraction(*grown))


if __name__ == "__main__":
    unittest.main()
