"""Mixtures of rules, one of which is drawn ahead of the first request, and their factors."""

from latewise.checks import check_factor, is_integer, lowest_terms
from latewise.errors import BadMixture
from latewise.factors import are_bounds_of, bounds_of
from latewise.graphs import Graph, loop_rows, worst_loop
from latewise.hindsight import check_row, first_debts, growth
from latewise.rules import Rule, check, cost, have_same_keys

MOST_PARTS = 3
MOST_JOINT_SPOTS = 1000


class Mixture:
    """A mixture. It never changes."""

    def __init__(self, parts):
        if not are_parts(parts):
            raise BadMixture()
        self._parts = list(parts)

    def __eq__(self, other):
        return isinstance(other, Mixture) and self._parts == other._parts

    def parts(self):
        """The list of the pairs (weight, rule), as they can be handed in."""
        return list(self._parts)

    def weights(self):
        """The list of the weights."""
        return [weight for weight, rule in self._parts]

    def rules(self):
        """The list of the rules."""
        return [rule for weight, rule in self._parts]


def mixed_cost(system, mixture, row):
    """The mixed cost of a row, a fraction."""
    check_rules_fit(system, mixture.rules())
    check_row(system, row)
    total = sum([weight * cost(system, rule, row) for weight, rule in mixture.parts()])
    return lowest_terms(total, sum(mixture.weights()))


def mixture_factor(system, mixture):
    """The least factor of a mixture, or None if it has none."""
    return worst_loop(mixture_graph(system, mixture)[1])[0]


def mixture_loop(system, mixture):
    """A bad loop of a mixture for its least factor, or for no factor; None if that is (1, 1)."""
    weighed = mixture_graph(system, mixture)[1]
    loop = worst_loop(weighed)[1]
    return None if loop is None else loop_rows(weighed, loop)


def mixture_bounds(system, mixture, some_factor):
    """Bounds of a mixture for a factor, or None if the mixture does not have it."""
    graph, weighed = mixture_graph(system, mixture)
    check_factor(some_factor)
    return bounds_of(weighed, graph.places, some_factor)


def are_mixture_bounds(system, mixture, some_factor, bounds):
    """True if the value bounds is bounds of a mixture for a factor."""
    graph, weighed = mixture_graph(system, mixture)
    check_factor(some_factor)
    return are_bounds_of(weighed, graph.places, some_factor, bounds)


def are_parts(value):
    """True if the value is a list of the pairs of a mixture."""
    if not isinstance(value, list) or not all([is_part(part) for part in value]):
        return False
    return are_rules([rule for weight, rule in value])


def is_part(value):
    """True if the value is a pair of a weight and a rule."""
    if not isinstance(value, tuple) or len(value) != 2:
        return False
    return is_integer(value[0]) and value[0] >= 1 and isinstance(value[1], Rule)


def are_rules(value):
    """True if the value is a list of one to three rules, no two of them equal, with the same keys."""
    if not isinstance(value, list) or not 1 <= len(value) <= MOST_PARTS:
        return False
    if not all([isinstance(rule, Rule) for rule in value]):
        return False
    first = value[0].states()[0]
    if not all([have_same_keys(rule.states()[0], first) for rule in value]):
        return False
    return all([rule not in value[:at] for at, rule in enumerate(value)])


def check_rules_fit(system, rules):
    """Raises Unfit of the first rule that does not fit the system, if there is one."""
    for rule in rules:
        check(system, rule)


def mixture_graph(system, mixture):
    """The pair of the graph of the joint spots of a mixture, and of the one with what they cost by its weights."""
    graph = joint_graph(system, mixture.rules(), MOST_JOINT_SPOTS)
    return graph, weighed_graph(graph, mixture.weights())


def joint_graph(system, rules, most):
    """The graph of the joint spots of rules that can be reached, with tuples of what each rule pays as costs."""
    check_rules_fit(system, rules)
    nothing = tuple([0 for rule in rules])
    first = (nothing, nothing, first_debts(system))
    return Graph(first, lambda spot: joint_steps(system, rules, spot), most)


def joint_steps(system, rules, spot):
    """The steps from a joint spot, one for each kind."""
    states, modes, some_debts = spot
    found = []
    for kind in system.names:
        grown, owed = growth(system, some_debts, kind)
        told = [rule.step(state, kind) for rule, state in zip(rules, states)]
        chosen = tuple([mode for mode, following in told])
        behind = tuple([following for mode, following in told])
        costs = tuple([system.price(mode, kind, new) for mode, new in zip(modes, chosen)])
        found.append((kind, (behind, chosen, owed), costs, grown))
    return found


def weighed_graph(graph, weights):
    """The graph of the numbers of joint spots, with weights times costs, and the sum of the weights times growths.

    Its places are reached in the same order as in the given graph: so each one stands at the number that it is.
    """
    return Graph(0, lambda number: weighed_steps(graph.edges[number], weights), None)


def weighed_steps(edges, weights):
    """The edges of a joint spot as steps with the weighed costs and growths."""
    whole = sum(weights)
    return [
        (kind, behind, sum([weight * paid for weight, paid in zip(weights, costs)]), whole * grown)
        for kind, behind, costs, grown in edges
    ]
