"""The factors of rules: by how much they are dearer than the best in hindsight on all rows."""

from latewise.checks import check_factor, is_integer
from latewise.graphs import Graph, heights, loop_rows, worst_loop
from latewise.hindsight import first_debts, growth
from latewise.rules import check

MOST_SPOTS = 1000


def spots(system, rule):
    """The list of the spots of a rule that can be reached."""
    return spot_graph(system, rule).places


def factor(system, rule):
    """The least factor of a rule, or None if it has none."""
    return worst_loop(spot_graph(system, rule))[0]


def bad_loop(system, rule):
    """A bad loop for the least factor of a rule, or for no factor; None if the least factor is (1, 1)."""
    graph = spot_graph(system, rule)
    loop = worst_loop(graph)[1]
    return None if loop is None else loop_rows(graph, loop)


def bounds(system, rule, some_factor):
    """Bounds of a rule for a factor, or None if the rule does not have it."""
    graph = spot_graph(system, rule)
    check_factor(some_factor)
    return bounds_of(graph, graph.places, some_factor)


def are_bounds(system, rule, some_factor, bounds):
    """True if the value bounds is bounds of a rule for a factor."""
    graph = spot_graph(system, rule)
    check_factor(some_factor)
    return are_bounds_of(graph, graph.places, some_factor, bounds)


def excess(system, rule, some_factor):
    """The excess of a rule for a factor, or None if there is none."""
    graph = spot_graph(system, rule)
    check_factor(some_factor)
    numbers = heights(graph, some_factor)
    return None if numbers is None else numbers[0]


def spot_graph(system, rule):
    """The graph of the spots of a rule, with the kinds as labels."""
    return spot_graph_from(system, rule, (0, 0, first_debts(system)))


def spot_graph_from(system, rule, first):
    """The graph of the spots of a rule that can be reached from the first one, with the kinds as labels."""
    check(system, rule)
    return Graph(first, lambda spot: steps_from(system, rule, spot), MOST_SPOTS)


def steps_from(system, rule, spot):
    """The steps from a spot, one for each kind."""
    state, mode, some_debts = spot
    found = []
    for kind in system.names:
        chosen, following = rule.step(state, kind)
        grown, owed = growth(system, some_debts, kind)
        found.append((kind, (following, chosen, owed), system.price(mode, kind, chosen), grown))
    return found


def bounds_of(graph, places, some_factor):
    """Bounds for a factor, a dict from the places that the numbers of the graph stand for; None if there are none."""
    numbers = heights(graph, some_factor)
    return None if numbers is None else {place: number for place, number in zip(places, numbers)}


def are_bounds_of(graph, places, some_factor, value):
    """True if the value is bounds for a factor, a dict from just the places that the numbers stand for."""
    if not isinstance(value, dict) or len(value) != len(places):
        return False
    if not all([place in value and is_integer(value[place]) for place in places]):
        return False
    return are_kept(graph, some_factor, [value[place] for place in places])


def are_kept(graph, some_factor, numbers):
    """True if at each edge what it is worth and the number behind it are at most the number ahead of it."""
    top, bottom = some_factor
    for number, edges in zip(numbers, graph.edges):
        if not all([bottom * edge[2] - top * edge[3] + numbers[edge[1]] <= number for edge in edges]):
            return False
    return True
