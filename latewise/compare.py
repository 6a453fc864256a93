"""Rules compared: rows on which they do not cost the same, and by how much one can be dearer than another."""

from latewise.graphs import Graph, heights
from latewise.rules import check


def parting_row(system, first, second):
    """A row with the fewest requests that does not cost the same by two rules, or None if there is none."""
    graph = pair_graph(system, first, second)
    # Nearer pairs stand ahead of farther ones, so the first difference found ends a row with the fewest requests.
    for number, edges in enumerate(graph.edges):
        parting = [edge[0] for edge in edges if edge[2] != 0]
        if len(parting) > 0:
            return graph.labels_to(number) + [parting[0]]
    return None


def lead(system, first, second):
    """The lead of the first rule over the second one, or None if there is none."""
    # There is no growth here: what a walk is worth is the sum of the differences along it.
    numbers = heights(pair_graph(system, first, second), (0, 1))
    return None if numbers is None else numbers[0]


def pair_graph(system, first, second):
    """The graph of what two rules reach together, with the kinds as labels, and differences in place of costs."""
    check(system, first)
    check(system, second)
    return Graph((0, 0, 0, 0), lambda pair: steps_from_pair(system, first, second, pair), None)


def steps_from_pair(system, first, second, pair):
    """The steps from a tuple of state and mode of the first rule, and state and mode of the second one."""
    state, mode, other_state, other_mode = pair
    found = []
    for kind in system.names:
        chosen, following = first.step(state, kind)
        other_chosen, other_following = second.step(other_state, kind)
        difference = system.price(mode, kind, chosen) - system.price(other_mode, kind, other_chosen)
        found.append((kind, (following, chosen, other_following, other_chosen), difference, 0))
    return found
