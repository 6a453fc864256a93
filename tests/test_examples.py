"""The document's own examples, word for word, for the modules that there are; and those of README.md."""

import doctest
import unittest
from pathlib import Path

README = Path(__file__).resolve().parent.parent / "README.md"

SYSTEM = """
>>> from latewise.systems import System
>>> system = System([[0, 1], [2, 0]], {"q": [1, 0], "p": [0, 2]})
>>> [system.modes, system.names, system.switch(1, 0), system.service("q", 1)]
[2, ('p', 'q'), 2, 0]
"""

BEST_AND_DEBTS = """
>>> from latewise.systems import System
>>> from latewise.hindsight import best, debts
>>> system = System([[0, 1], [2, 0]], {"q": [1, 0], "p": [0, 2]})
>>> [best(system, ["q", "q", "q", "p"]), debts(system, ["q", "q"])]
[3, (1, 0)]
"""

BEST_WITH_MORE = """
>>> from latewise.systems import System
>>> from latewise.hindsight import best
>>> system = System([[0, 1, 4], [4, 0, 1], [4, 4, 0]], {"z": [0, 0, 0], "x": [None, None, 0]})
>>> [best(system, ["x"]), best(system, ["z", "x"])]
[4, 2]
"""

RULE = """
>>> from latewise.systems import System
>>> from latewise.rules import Rule
>>> from latewise.rules import cost, modes_of
>>> system = System([[0, 1], [2, 0]], {"q": [1, 0], "p": [0, 2]})
>>> rule = Rule([{"q": (0, 1), "p": (0, 0)}, {"q": (1, 1), "p": (0, 0)}])
>>> row = ["q", "q", "p", "q"]
>>> [modes_of(system, rule, row), cost(system, rule, row)]
[[0, 1, 0, 0], 5]
"""

FACTOR = """
>>> from latewise.systems import System
>>> from latewise.rules import Rule
>>> from latewise.factors import excess, factor
>>> system = System([[0, 1], [2, 0]], {"q": [1, 0], "p": [0, 2]})
>>> rule = Rule([{"q": (0, 1), "p": (0, 0)}, {"q": (1, 1), "p": (0, 0)}])
>>> [factor(system, rule), excess(system, rule, (2, 1)), excess(system, rule, (3, 1)), excess(system, rule, (3, 2))]
[(2, 1), 0, 0, None]
"""

COMPARED = """
>>> from latewise.systems import System
>>> from latewise.rules import Rule
>>> from latewise.compare import lead, parting_row
>>> system = System([[0, 1], [2, 0]], {"q": [1, 0], "p": [0, 2]})
>>> rule = Rule([{"q": (0, 1), "p": (0, 0)}, {"q": (1, 1), "p": (0, 0)}])
>>> other = Rule([{"q": (1, 0), "p": (0, 0)}])
>>> [len(parting_row(system, rule, other)), lead(system, rule, other), lead(system, other, rule)]
[2, None, None]
"""

GAME = """
>>> from latewise.systems import System
>>> from latewise.games import least_factor
>>> system = System([[0, 1], [2, 0]], {"q": [1, 0], "p": [0, 2]})
>>> other = System([[0, 0, 0], [0, 0, 1], [0, 1, 0]], {"a": [1, 0, 0], "b": [1, 0, 1], "c": [1, 1, 0], "e": [0, 1, 1]})
>>> [least_factor(system), least_factor(other)]
[(2, 1), None]
"""

SMALLEST = """
>>> from latewise.systems import System
>>> from latewise.rules import Rule
>>> from latewise.smallest import smallest_rule
>>> system = System([[0, 1], [2, 0]], {"q": [1, 0], "p": [0, 2]})
>>> [smallest_rule(system, (3, 1), 1) == Rule([{"q": (1, 0), "p": (0, 0)}]), smallest_rule(system, (2, 1), 1)]
[True, None]
"""

KNOWN = """
>>> from latewise.systems import System
>>> from latewise.known import known_factor
>>> system = System([[0, 0, 0], [0, 0, 1], [0, 1, 0]], {"a": [1, 0, 0], "b": [1, 0, 1], "c": [1, 1, 0], "e": [0, 1, 1]})
>>> follows = {"a": ["b", "c"], "b": ["e"], "c": ["e"], "e": ["a"]}
>>> [known_factor(system, 0, follows), known_factor(system, 1, follows)]
[None, (1, 1)]
"""

LIVE = """
>>> from latewise.systems import System
>>> from latewise.rules import Rule
>>> from latewise.live import Live
>>> system = System([[0, 1], [2, 0]], {"q": [1, 0], "p": [0, 2]})
>>> rule = Rule([{"q": (0, 1), "p": (0, 0)}, {"q": (1, 1), "p": (0, 0)}])
>>> live = Live(system, rule, (2, 1))
>>> [live.serve("q"), live.serve("q"), live.serve("p"), live.paid(), live.best(), live.debts(), live.left(), live.allowance()]
[(0, 1), (1, 1), (0, 2), 4, 2, (0, 1), 0, 0]
"""

MIXTURES = """
>>> from latewise.systems import System
>>> from latewise.rules import Rule
>>> from latewise.mixtures import Mixture, mixed_cost, mixture_factor
>>> system = System([[0, 1], [2, 0]], {"q": [1, 0], "p": [0, 2]})
>>> rule = Rule([{"q": (0, 1), "p": (0, 0)}, {"q": (1, 1), "p": (0, 0)}])
>>> other = Rule([{"q": (1, 0), "p": (0, 0)}])
>>> mixture = Mixture([(3, rule), (2, other)])
>>> [mixture_factor(system, mixture), mixed_cost(system, mixture, ["q", "q", "p"])]
[(9, 5), (18, 5)]
"""

MIXING = """
>>> from latewise.systems import System
>>> from latewise.rules import Rule
>>> from latewise.mixing import are_hard, best_mixture
>>> system = System([[0, 1], [2, 0]], {"q": [1, 0], "p": [0, 2]})
>>> rule = Rule([{"q": (0, 1), "p": (0, 0)}, {"q": (1, 1), "p": (0, 0)}])
>>> other = Rule([{"q": (1, 0), "p": (0, 0)}])
>>> loops = [(1, ["q", "p"], ["q", "p"]), (2, ["q", "q", "p"], ["q", "q", "p"])]
>>> [weight for weight, one in best_mixture(system, [rule, other]).parts()] + [are_hard(system, [rule, other], loops, (9, 5))]
[3, 2, True]
"""

SOURCES = """
>>> from latewise.sources import Source, chance
>>> source = Source([{"q": (2, 0), "p": (1, 1)}, {"q": (1, 0)}])
>>> [chance(source, ["q", "p", "q"]), chance(source, ["p", "p"])]
[(2, 9), (0, 1)]
"""

AVERAGES = """
>>> from latewise.systems import System
>>> from latewise.rules import Rule
>>> from latewise.sources import Source
>>> from latewise.averages import best_average, rule_average
>>> system = System([[0, 1], [2, 0]], {"q": [1, 0], "p": [0, 2]})
>>> rule = Rule([{"q": (0, 1), "p": (0, 0)}, {"q": (1, 1), "p": (0, 0)}])
>>> source = Source([{"q": (1, 0), "p": (1, 0)}])
>>> [rule_average(system, rule, source), best_average(system, source)]
[(5, 8), (3, 7)]
"""

PRICES = """
>>> from latewise.systems import System
>>> from latewise.sources import Source
>>> from latewise.prices import least_average, shown_factor
>>> system = System([[0, 1], [2, 0]], {"q": [1, 0], "p": [0, 2]})
>>> source = Source([{"q": (1, 0), "p": (1, 0)}])
>>> [least_average(system, source), shown_factor(system, source)]
[(1, 2), (7, 6)]
"""

DRAWN = """
>>> from latewise.systems import System
>>> from latewise.rules import Rule
>>> from latewise.mixtures import Mixture
>>> from latewise.drawn import LiveMixture
>>> system = System([[0, 1], [2, 0]], {"q": [1, 0], "p": [0, 2]})
>>> rule = Rule([{"q": (0, 1), "p": (0, 0)}, {"q": (1, 1), "p": (0, 0)}])
>>> other = Rule([{"q": (1, 0), "p": (0, 0)}])
>>> live = LiveMixture(system, Mixture([(3, rule), (2, other)]), (9, 5))
>>> [live.serve("q"), live.serve("p"), live.paid(), live.best(), live.draw(3), live.drawn()]
[[(0, 1), (1, 1)], [(0, 0), (0, 2)], [1, 3], 1, 1, 1]
"""


class ExamplesTest(unittest.TestCase):
    def run_example(self, text):
        example = doctest.DocTestParser().get_doctest(text, {}, self.id(), None, None)
        told = []
        result = doctest.DocTestRunner().run(example, out=told.append)
        self.assertGreater(result.attempted, 0)
        self.assertEqual(result.failed, 0, "".join(told))

    def test_system(self):
        self.run_example(SYSTEM)

    def test_best_and_debts(self):
        self.run_example(BEST_AND_DEBTS)

    def test_best_may_be_less_with_more(self):
        self.run_example(BEST_WITH_MORE)

    def test_rule(self):
        self.run_example(RULE)

    def test_factor(self):
        self.run_example(FACTOR)

    def test_compared(self):
        self.run_example(COMPARED)

    def test_game(self):
        self.run_example(GAME)

    def test_smallest(self):
        self.run_example(SMALLEST)

    def test_known(self):
        self.run_example(KNOWN)

    def test_live(self):
        self.run_example(LIVE)

    def test_mixtures(self):
        self.run_example(MIXTURES)

    def test_mixing(self):
        self.run_example(MIXING)

    def test_sources(self):
        self.run_example(SOURCES)

    def test_averages(self):
        self.run_example(AVERAGES)

    def test_prices(self):
        self.run_example(PRICES)

    def test_drawn(self):
        self.run_example(DRAWN)

    def test_readme(self):
        blocks = README.read_text().split("```\n")[1::2]
        self.run_example("\n".join(block for block in blocks if block.startswith(">>>")))


if __name__ == "__main__":
    unittest.main()
