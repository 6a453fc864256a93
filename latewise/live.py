"""Live machines, which serve requests as they come, and may change their rule or their system."""

from latewise.checks import check_factor
from latewise.errors import OtherModes, TooDear, UnknownKind
from latewise.factors import spot_graph_from
from latewise.graphs import dearest_walk, heights
from latewise.hindsight import first_debts
from latewise.marks import Marks
from latewise.rules import check


class Live:
    """A live machine.

    It keeps the graph of the spots that could be reached when its rule and its system were last changed, with what is
    left at each of them, and the number of the spot of now in it.
    """

    def __init__(self, system, rule, some_factor):
        check(system, rule)
        check_factor(some_factor)
        self._factor = some_factor
        self._marks = Marks()
        self._paid = 0
        self._best = 0
        self._allowance = self._go_on(system, rule, (0, 0, first_debts(system)))

    def system(self):
        """The system of now."""
        return self._system

    def rule(self):
        """The rule of now."""
        return self._rule

    def mode(self):
        """The mode of now."""
        return self._spot()[1]

    def state(self):
        """The state of the rule."""
        return self._spot()[0]

    def paid(self):
        """What was paid so far."""
        return self._paid

    def best(self):
        """The best of all requests so far."""
        return self._best

    def debts(self):
        """The debts behind all requests so far."""
        return self._spot()[2]

    def left(self):
        """What is left: the greatest worth of all rows that can still come."""
        return self._numbers[self._number]

    def allowance(self):
        """The allowance."""
        return self._allowance

    def serve(self, kind):
        """Serves a request; returns a pair of the mode and the cost."""
        if kind not in self._system.names:
            raise UnknownKind(kind)
        edge = self._graph.edges[self._number][self._system.names.index(kind)]
        self._number = edge[1]
        self._paid += edge[2]
        self._best += edge[3]
        return self.mode(), edge[2]

    def worst_row(self):
        """A row that can still come, and is worth what is left."""
        return dearest_walk(self._graph, self._factor, self._numbers, self._number)

    def change_rule(self, rule):
        """Changes the rule; returns by how much the allowance rose."""
        return self._change(self._system, rule, (0, self.mode(), self.debts()))

    def change_system(self, system):
        """Changes the system; returns by how much the allowance rose."""
        if system.modes != self._system.modes:
            raise OtherModes()
        return self._change(system, self._rule, self._spot())

    def mark(self):
        """Sets a mark; returns its number."""
        return self._marks.hold((
            self._system, self._rule, self._graph, self._numbers,
            self._number, self._paid, self._best, self._allowance,
        ))

    def back(self, number):
        """Goes back to the mark with the number."""
        (
            self._system, self._rule, self._graph, self._numbers,
            self._number, self._paid, self._best, self._allowance,
        ) = self._marks.held(number)

    def _spot(self):
        """The spot of now."""
        return self._graph.places[self._number]

    def _change(self, system, rule, spot):
        """Goes on from the spot with a system and a rule; returns by how much the allowance rose."""
        ahead = self.left()
        rise = max(0, self._go_on(system, rule, spot) - ahead)
        self._allowance += rise
        return rise

    def _go_on(self, system, rule, spot):
        """Begins anew at the spot with a system and a rule; returns what is left then. Changes nothing on an error."""
        graph = spot_graph_from(system, rule, spot)
        numbers = heights(graph, self._factor)
        if numbers is None:
            raise TooDear()
        self._system = system
        self._rule = rule
        self._graph = graph
        self._numbers = numbers
        self._number = 0
        return numbers[0]
