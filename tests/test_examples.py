"""The document's own examples, word for word, for the modules that there are; and those of README.md."""

import doctest
import unittest
from pathlib import Path

README = Path(__file__).resolve().parent.parent / "README.md"

SYSTEM = """
>>> from latewise.systems import System
>>> system = System([[0, 1], [2, 0]], {"q": [1, 0], "p": [0, 2]})
>>> [system.modes, system.names, system.switch(1, 0), system.service("q", 1)]
[2, ('p', 'q'), 2, 0]
"""

BEST_AND_DEBTS = """
>>> from latewise.systems import System
>>> from latewise.hindsight import best, debts
>>> system = System([[0, 1], [2, 0]], {"q": [1, 0], "p": [0, 2]})
>>> [best(system, ["q", "q", "q", "p"]), debts(system, ["q", "q"])]
[3, (1, 0)]
"""

BEST_WITH_MORE = """
>>> from latewise.systems import System
>>> from latewise.hindsight import best
>>> system = System([[0, 1, 4], [4, 0, 1], [4, 4, 0]], {"z": [0, 0, 0], "x": [None, None, 0]})
>>> [best(system, ["x"]), best(system, ["z", "x"])]
[4, 2]
"""

RULE = """
>>> from latewise.systems import System
>>> from latewise.rules import Rule
>>> from latewise.rules import cost, modes_of
>>> system = System([[0, 1], [2, 0]], {"q": [1, 0], "p": [0, 2]})
>>> rule = Rule([{"q": (0, 1), "p": (0, 0)}, {"q": (1, 1), "p": (0, 0)}])
>>> row = ["q", "q", "p", "q"]
>>> [modes_of(system, rule, row), cost(system, rule, row)]
[[0, 1, 0, 0], 5]
"""


class ExamplesTest(unittest.TestCase):
    def run_example(self, text):
        example = doctest.DocTestParser().get_doctest(text, {}, self.id(), None, None)
        told = []
        result = doctest.DocTestRunner().run(example, out=told.append)
        self.assertGreater(result.attempted, 0)
        self.assertEqual(result.failed, 0, "".join(told))

    def test_system(self):
        self.run_example(SYSTEM)

    def test_best_and_debts(self):
        self.run_example(BEST_AND_DEBTS)

    def test_best_may_be_less_with_more(self):
        self.run_example(BEST_WITH_MORE)

    def test_rule(self):
        self.run_example(RULE)

    def test_readme(self):
        blocks = README.read_text().split("```\n")[1::2]
        self.run_example("\n".join(block for block in blocks if block.startswith(">>>")))


if __name__ == "__main__":
    unittest.main()
