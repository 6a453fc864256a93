"""Averages: what rules, mixtures and the best cost for requests that a source draws."""

from math import lcm

from latewise.chains import parts_in_all, rates_and_offsets
from latewise.checks import is_fraction, lowest_terms
from latewise.graphs import Graph
from latewise.hindsight import first_debts, growth
from latewise.mixtures import check_rules_fit
from latewise.ratios import weighed_sum
from latewise.rules import check
from latewise.sources import check_source

MOST_POSITIONS = 80


def expected_cost(system, rule, source, many):
    """The expected cost of a rule for so many requests, a fraction."""
    return expected(rule_positions(system, rule, source, None).edges, many)


def expected_best(system, source, many):
    """The expected best for so many requests, a fraction."""
    return expected(best_positions(system, source, None).edges, many)


def rule_average(system, rule, source):
    """The average of a rule by a source."""
    return rates_and_offsets(rule_positions(system, rule, source, MOST_POSITIONS).edges)[0][0]


def best_average(system, source):
    """The average of the best by a source."""
    return rates_and_offsets(best_positions(system, source, MOST_POSITIONS).edges)[0][0]


def mixture_average(system, mixture, source):
    """The average of a mixture by a source."""
    check_rules_fit(system, mixture.rules())
    top, bottom = weighed_sum([(weight, rule_average(system, rule, source)) for weight, rule in mixture.parts()])
    return lowest_terms(top, bottom * sum(mixture.weights()))


def rule_table(system, rule, source):
    """A table of a rule."""
    graph = rule_positions(system, rule, source, MOST_POSITIONS)
    return table_of(graph, rates_and_offsets(graph.edges))


def best_table(system, source):
    """A table of the best."""
    graph = best_positions(system, source, MOST_POSITIONS)
    return table_of(graph, rates_and_offsets(graph.edges))


def is_rule_table(system, rule, source, table):
    """True if the value table is a table of a rule."""
    return is_table(rule_positions(system, rule, source, MOST_POSITIONS), table)


def is_best_table(system, source, table):
    """True if the value table is a table of the best."""
    return is_table(best_positions(system, source, MOST_POSITIONS), table)


def rule_positions(system, rule, source, most):
    """The graph of the positions of a rule with a source: its edges are those of a chain, with the kinds as labels."""
    check(system, rule)
    check_source(system, source)
    return Graph((0, 0, 0), lambda position: rule_steps(system, rule, source, position), most)


def rule_steps(system, rule, source, position):
    """The steps from a position of a rule with a source."""
    place, state, mode = position
    found = []
    for kind, part, behind in source.draws(place):
        chosen, following = rule.step(state, kind)
        found.append((kind, (behind, following, chosen), system.price(mode, kind, chosen), part))
    return found


def best_positions(system, source, most):
    """The graph of the positions of the best with a source: as that of a rule, with growths as costs."""
    check_source(system, source)
    return Graph((0, first_debts(system)), lambda position: best_steps(system, source, position), most)


def best_steps(system, source, position):
    """The steps from a position of the best with a source."""
    place, some_debts = position
    found = []
    for kind, part, behind in source.draws(place):
        grown, owed = growth(system, some_debts, kind)
        found.append((kind, (behind, owed), grown, part))
    return found


def expected(edges, many):
    """What so many edges of a chain from its first place cost, averaged by their chances."""
    wholes = [parts_in_all(steps) for steps in edges]
    scale = 1
    for whole in wholes:
        scale = lcm(scale, whole)
    # The chances are the numbers here divided by the bottom, and so are all costs so far.
    chances = {0: 1}
    bottom = 1
    total = 0
    for _ in range(many):
        total *= scale
        bottom *= scale
        behind = {}
        for number, chance in chances.items():
            for label, following, paid, part in edges[number]:
                share = chance * part * (scale // wholes[number])
                total += share * paid
                behind[following] = behind.get(following, 0) + share
        chances = behind
    return lowest_terms(total, bottom)


def table_of(graph, told):
    """The table of the positions of a graph, by the list of their pairs (rate, offset)."""
    return {position: pair for position, pair in zip(graph.places, told)}


def is_table(graph, value):
    """True if the value is a table of the positions of a graph."""
    if not isinstance(value, dict) or len(value) != len(graph.places):
        return False
    if not all([position in value and is_rate_and_offset(value[position]) for position in graph.places]):
        return False
    told = [value[position] for position in graph.places]
    return all([are_averages(told[number], steps, told) for number, steps in enumerate(graph.edges)])


def is_rate_and_offset(value):
    """True if the value is a pair of fractions."""
    return isinstance(value, tuple) and len(value) == 2 and is_fraction(value[0]) and is_fraction(value[1])


def are_averages(pair, steps, told):
    """True if the pair (rate, offset) is the average of the steps, by the pairs that are told of all places."""
    whole = parts_in_all(steps)
    rates = [(part, told[behind][0]) for label, behind, paid, part in steps]
    offsets = [(part, told[behind][1]) for label, behind, paid, part in steps]
    costs = [(part * paid, (1, 1)) for label, behind, paid, part in steps]
    return (
        weighed_sum([(-whole, pair[0]), *rates]) == (0, 1)
        and weighed_sum([(-whole, pair[0]), (-whole, pair[1]), *offsets, *costs]) == (0, 1)
    )
