"""Mixing: the best mixtures of some rules, and the loops that no mixture of them can serve for less."""

from latewise.balances import counted, lightest, load, surplus
from latewise.checks import check_factor, is_integer, lowest_terms
from latewise.duels import MOST_COST
from latewise.errors import BadRules
from latewise.graphs import dear_loop, loop_rows, worst_loop_above
from latewise.mixtures import Mixture, are_rules, joint_graph, weighed_graph

MOST_JOINT_SPOTS = 200


def best_mixture(system, rules):
    """A best mixture of the rules, or None if there is none."""
    graph = graph_of_rules(system, rules)
    able = able_rules(free_loops(graph, len(rules)))
    if len(able) == 0:
        return None
    weights = balance(system, graph, able, len(rules))[0]
    return Mixture([(weight, rule) for weight, rule in zip(weights, rules) if weight > 0])


def hard_loops(system, rules):
    """Hard loops for the factor of a best mixture, or against all factors if there is none; None if it is (1, 1)."""
    graph = graph_of_rules(system, rules)
    free = free_loops(graph, len(rules))
    able = able_rules(free)
    some_factor = (1, 1)
    hard = []
    if len(able) > 0:
        weights, some_factor, burdens = balance(system, graph, able, len(rules))
        if some_factor == (1, 1):
            return None
        hard = counted(burdens, able, weights, some_factor)
    # A rule without a factor is never below one if its own loop without growth is counted often enough.
    more = [
        counted_enough(burden_of(system, graph, loop), at, hard, some_factor)
        for at, loop in enumerate(free) if loop is not None
    ]
    return [(count, *loop_rows(graph, burden[2])) for count, burden in hard + more]


def are_hard(system, rules, loops, some_factor):
    """True if the value loops is hard loops for a factor, or against all factors if some_factor is None."""
    graph = graph_of_rules(system, rules)
    if some_factor is not None:
        check_factor(some_factor)
    if not isinstance(loops, list) or len(loops) == 0:
        return False
    if not all([is_counted_loop(system, graph, value) for value in loops]):
        return False
    burdens = [burden_of_row(system, graph, number_behind(system, graph, 0, lead), loop) for count, lead, loop in loops]
    growths = sum([value[0] * burden[1] for value, burden in zip(loops, burdens)])
    costs = [sum([value[0] * burden[0][at] for value, burden in zip(loops, burdens)]) for at in range(len(rules))]
    if some_factor is None:
        return growths == 0 and min(costs) > 0
    return growths > 0 and some_factor[1] * min(costs) >= some_factor[0] * growths


def graph_of_rules(system, rules):
    """The graph of the joint spots of the value rules; raises BadRules if it is no list that has mixtures."""
    if not are_rules(rules):
        raise BadRules()
    return joint_graph(system, rules, MOST_JOINT_SPOTS)


def free_loops(graph, many):
    """For each of so many rules a loop without growth that has a cost for it; None if the rule has a factor."""
    # No loop through places that differ costs as much as this, so only one without growth is dearer.
    limit = (MOST_COST * len(graph.places) + 1, 1)
    return [dear_loop(weighed_graph(graph, alone(at, many)), limit) for at in range(many)]


def able_rules(free):
    """The places of the rules that have a factor, by their loops without growth."""
    return [at for at, loop in enumerate(free) if loop is None]


def alone(at, many):
    """The weights of so many rules with only the one at a place."""
    return [1 if other == at else 0 for other in range(many)]


def balance(system, graph, able, many):
    """The weights of a best mixture, its factor, and the burdens that were found on the way.

    The first burden stands for no loop: it is there because no factor is below (1, 1).
    """
    weights = alone(able[0], many)
    burdens = [((1,) * many, 1, None)]
    some_factor = (1, 1)
    loop = worst_loop_above(weighed_graph(graph, weights), some_factor)[1]
    # Each loop that is found has, by the weights of then, a greater ratio than all of those before it.
    while loop is not None:
        burdens.append(burden_of(system, graph, loop))
        weights = lightest(burdens, able)
        some_factor = lowest_terms(load(burdens[-1], weights), burdens[-1][1] * sum(weights))
        loop = worst_loop_above(weighed_graph(graph, weights), some_factor)[1]
    return weights, some_factor, burdens


def burden_of(system, graph, loop):
    """The burden of a loop of numbers of joint spots."""
    number, edges = loop
    costs, growth = burden_of_row(system, graph, number, [edge[0] for edge in edges])
    return costs, growth, loop


def burden_of_row(system, graph, number, row):
    """The pair of what each rule pays for a row from the joint spot with the number, and of the growth of it."""
    edges = edges_along(system, graph, number, row)
    many = len(graph.places[0][0])
    return [sum([edge[2][at] for edge in edges]) for at in range(many)], sum([edge[3] for edge in edges])


def edges_along(system, graph, number, row):
    """The edges of a row from the joint spot with the number."""
    places = {kind: at for at, kind in enumerate(system.names)}
    found = []
    for kind in row:
        edge = graph.edges[number][places[kind]]
        number = edge[1]
        found.append(edge)
    return found


def number_behind(system, graph, number, row):
    """The number of the joint spot behind a row from the one with the given number."""
    edges = edges_along(system, graph, number, row)
    return edges[-1][1] if len(edges) > 0 else number


def counted_enough(burden, at, hard, some_factor):
    """The burden without growth, counted often enough for the rule at a place not to be below the factor in all."""
    lacking = -sum([count * surplus(one, at, some_factor) for count, one in hard])
    # The division is rounded up.
    return max(1, -(-lacking // surplus(burden, at, some_factor))), burden


def is_counted_loop(system, graph, value):
    """True if the value is a tuple (count, lead, loop), and the loop leads from the spot behind the lead back to it."""
    if not isinstance(value, tuple) or len(value) != 3:
        return False
    count, lead, loop = value
    if not is_integer(count) or count < 1 or not is_row(system, lead) or not is_row(system, loop) or len(loop) == 0:
        return False
    number = number_behind(system, graph, 0, lead)
    return number_behind(system, graph, number, loop) == number


def is_row(system, value):
    """True if the value is a row of the system."""
    return isinstance(value, list) and all([thing in system.names for thing in value])
