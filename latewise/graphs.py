"""Graphs of what rows of requests can reach, and the dearest walks and loops in them."""

from latewise.checks import lowest_terms
from latewise.errors import TooManyStates


class Graph:
    """The places that can be reached from a first one; the first one has the number 0, nearer ones lesser numbers.

    steps gives the list of the steps from a place, tuples (label, place behind it, cost, growth). The edges of each
    place are these steps with the number of the place behind them in place of it.
    """

    def __init__(self, first, steps, most):
        self.places = [first]
        self.edges = []
        self._numbers = {first: 0}
        self._origins = [None]
        while len(self.edges) < len(self.places):
            number = len(self.edges)
            told = steps(self.places[number])
            self.edges.append([self._edge(number, step) for step in told])
            if most is not None and len(self.places) > most:
                raise TooManyStates()

    def _edge(self, number, step):
        """The step from the place with the number, as an edge."""
        label, place, cost, growth = step
        if place not in self._numbers:
            self._numbers[place] = len(self.places)
            self.places.append(place)
            self._origins.append((number, label))
        return label, self._numbers[place], cost, growth

    def labels_to(self, number):
        """The list of the labels of a shortest way from the first place to the one with the number."""
        labels = []
        while number > 0:
            number, label = self._origins[number]
            labels.append(label)
        labels.reverse()
        return labels


def heights(graph, fraction):
    """For each place the greatest worth of all walks from it, at least 0; None if some place has no greatest one.

    For the fraction (top, bottom), a walk is worth bottom times its cost less top times its growth.
    """
    numbers, loop = climb(graph, fraction)
    return numbers if loop is None else None


def dearest_walk(graph, fraction, numbers, first):
    """The list of the labels of a walk from the place with the number first that is worth its height.

    The numbers are the heights for the fraction.
    """
    walks = Graph(first, lambda number: dearest_steps(graph, fraction, numbers, number), None)
    ends = [at for at, number in enumerate(walks.places) if numbers[number] == 0]
    return walks.labels_to(ends[0])


def dearest_steps(graph, fraction, numbers, number):
    """The steps from the place with the number that begin a dearest walk; none if to stay is one."""
    top, bottom = fraction
    if numbers[number] == 0:
        return []
    return [
        edge for edge in graph.edges[number]
        if bottom * edge[2] - top * edge[3] + numbers[edge[1]] == numbers[number]
    ]


def dear_loop(graph, fraction):
    """A pair of the number of a place and the list of edges of a loop from it that is worth more than 0; or None."""
    return climb(graph, fraction)[1]


def worst_loop(graph):
    """A pair of the least factor (None if there is none) and of a loop that shows it (None if that is (1, 1))."""
    return worst_loop_above(graph, (1, 1))


def worst_loop_above(graph, some_factor):
    """A pair of the least factor from the given one on, and of a loop that shows it; None as in worst_loop."""
    worst = None
    loop = dear_loop(graph, some_factor)
    # Each loop that is found is dearer by its growth than the one before it, so one of them is the dearest.
    while loop is not None:
        worst = loop
        cost = sum([edge[2] for edge in loop[1]])
        growth = sum([edge[3] for edge in loop[1]])
        if growth == 0:
            return None, worst
        some_factor = lowest_terms(cost, growth)
        loop = dear_loop(graph, some_factor)
    return some_factor, worst


def loop_rows(graph, loop):
    """The pair of lists of labels of a loop: those of a way to it, and those of the loop itself."""
    number, edges = loop
    return graph.labels_to(number), [edge[0] for edge in edges]


def climb(graph, fraction):
    """The pair of the heights of all places, and None; or of None, and a loop that is worth more than 0."""
    top, bottom = fraction
    worths = [[(edge[1], bottom * edge[2] - top * edge[3]) for edge in edges] for edges in graph.edges]
    numbers = [0 for edges in worths]
    chosen = [None for edges in worths]
    # A loop of edges that are all chosen is worth more than 0. After as many rounds as there are places, either such
    # a loop stands, or nothing is raised any more.
    while raise_numbers(worths, numbers, chosen):
        number = chosen_loop(worths, chosen)
        if number is not None:
            return None, (number, chosen_edges(graph, chosen, number))
    return numbers, None


def raise_numbers(worths, numbers, chosen):
    """Raises the number of each place to the best step from it, and marks this step; True if any was raised."""
    raised = False
    # Walks are known from their ends, and places with greater numbers tend to stand nearer to these.
    for number in reversed(range(len(worths))):
        highest = numbers[number]
        for at, (behind, worth) in enumerate(worths[number]):
            if worth + numbers[behind] > highest:
                highest = worth + numbers[behind]
                chosen[number] = at
                raised = True
        numbers[number] = highest
    return raised


def chosen_loop(worths, chosen):
    """The number of a place on a loop of chosen steps, or None if they have no loop."""
    seen = [None for edges in worths]
    for first in range(len(worths)):
        number = first
        while seen[number] is None and chosen[number] is not None:
            seen[number] = first
            number = worths[number][chosen[number]][0]
        if seen[number] == first:
            return number
    return None


def chosen_edges(graph, chosen, first):
    """The list of the chosen edges of the loop through the place with the given number."""
    found = [graph.edges[first][chosen[first]]]
    while found[-1][1] != first:
        number = found[-1][1]
        found.append(graph.edges[number][chosen[number]])
    return found
