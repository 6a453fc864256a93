"""Live mixtures, which serve with all rules of a mixture at once, and live sources, which serve drawn requests."""

from latewise.averages import MOST_POSITIONS, rule_positions, table_of
from latewise.chains import rates_and_offsets
from latewise.checks import check_factor, is_integer_within, lowest_terms
from latewise.errors import AlreadyDrawn, NotDrawn, TooDear, UnknownDraw, UnknownKind
from latewise.graphs import heights
from latewise.marks import Marks
from latewise.mixtures import check_rules_fit, mixture_graph
from latewise.ratios import weighed_sum, with_one_bottom


class LiveMixture:
    """A live mixture.

    It keeps the graph of the joint spots, with what is left at each of them, and the number of the one of now.
    """

    def __init__(self, system, mixture, some_factor):
        check_rules_fit(system, mixture.rules())
        check_factor(some_factor)
        self._graph, weighed = mixture_graph(system, mixture)
        self._numbers = heights(weighed, some_factor)
        if self._numbers is None:
            raise TooDear()
        self._names = system.names
        self._weights = mixture.weights()
        self._number = 0
        self._paid = [0 for weight in self._weights]
        self._best = 0
        self._drawn = None
        self._marks = Marks()

    def paid(self):
        """The list of what the rules have paid so far."""
        return list(self._paid)

    def best(self):
        """The best of all requests so far."""
        return self._best

    def debts(self):
        """The debts behind all requests so far."""
        return self._graph.places[self._number][2]

    def left(self):
        """What is left: the greatest worth of all rows that can still come."""
        return self._numbers[self._number]

    def allowance(self):
        """The allowance: what was left at the beginning."""
        return self._numbers[0]

    def drawn(self):
        """The place of the drawn rule in the mixture, or None if it was not told."""
        return self._drawn

    def serve(self, kind):
        """Serves a request; returns the list of pairs (mode, cost), one for each rule."""
        if kind not in self._names:
            raise UnknownKind(kind)
        label, behind, costs, grown = self._graph.edges[self._number][self._names.index(kind)]
        self._number = behind
        self._paid = [before + paid for before, paid in zip(self._paid, costs)]
        self._best += grown
        return [(mode, paid) for mode, paid in zip(self._graph.places[behind][1], costs)]

    def draw(self, number):
        """Tells which rule was drawn, by its number; returns the place of the rule in the mixture."""
        if not is_integer_within(number, 0, sum(self._weights) - 1):
            raise UnknownDraw(number)
        if self._drawn is not None:
            raise AlreadyDrawn()
        self._drawn = place_of(self._weights, number)
        return self._drawn

    def mark(self):
        """Sets a mark; returns its number."""
        return self._marks.hold((self._number, self._paid, self._best, self._drawn))

    def back(self, number):
        """Goes back to the mark with the number."""
        self._number, self._paid, self._best, self._drawn = self._marks.held(number)


class LiveSource:
    """A live source. It keeps the graph of its positions, and the number of the one of now."""

    def __init__(self, system, source, rule):
        self._graph = rule_positions(system, rule, source, MOST_POSITIONS)
        self._told = rates_and_offsets(self._graph.edges)
        # With one bottom, the rates that were due are summed up as integers, however many they are.
        self._tops, self._bottom = with_one_bottom([rate for rate, offset in self._told])
        self._names = system.names
        self._number = 0
        self._paid = 0
        self._due = 0

    def table(self):
        """The table that it keeps."""
        return table_of(self._graph, self._told)

    def position(self):
        """The position of now."""
        return self._graph.places[self._number]

    def paid(self):
        """What was paid so far."""
        return self._paid

    def due(self):
        """The sum of what was due so far."""
        return lowest_terms(self._due, self._bottom)

    def luck(self):
        """The sum of the luck so far: what was paid above what was due, but for how the offset has changed."""
        now = self._told[self._number][1]
        return weighed_sum([(self._paid, (1, 1)), (-1, self.due()), (1, now), (-1, self._told[0][1])])

    def serve(self, kind):
        """Serves a request; returns a pair of the mode and the cost."""
        if kind not in self._names:
            raise UnknownKind(kind)
        drawn = [edge for edge in self._graph.edges[self._number] if edge[0] == kind]
        if len(drawn) == 0:
            raise NotDrawn(kind)
        label, behind, paid, part = drawn[0]
        self._due += self._tops[self._number]
        self._paid += paid
        self._number = behind
        return self.position()[2], paid


def place_of(weights, number):
    """The place of the weight that a number from 0 on, below the sum of the weights, falls to."""
    place = 0
    while number >= weights[place]:
        number -= weights[place]
        place += 1
    return place
