"""Small rules: those with a factor and as few states as possible, and rules without needless states."""

from latewise.checks import check_factor
from latewise.errors import TooManyRules
from latewise.games import moves_of, position_graph
from latewise.graphs import Graph, dear_loop, loop_rows
from latewise.hindsight import can_serve
from latewise.rules import Rule, check

MOST_RULES = 300


def smallest_rule(system, some_factor, most):
    """A smallest rule for a factor, of those with at most so many states; None if there is none."""
    check_factor(some_factor)
    check_count(system, most)
    moves = moves_of(position_graph(system))
    for many in range(1, most + 1):
        for rule in all_rules(system, many):
            if dear_loop(rule_graph(moves, rule), some_factor) is None:
                return rule
    return None


def shortfalls(system, some_factor, many):
    """The list of pairs of each rule with so many states and of rows on which it is too dear; None if one is not."""
    check_factor(some_factor)
    check_count(system, many)
    moves = moves_of(position_graph(system))
    found = []
    for rule in all_rules(system, many):
        graph = rule_graph(moves, rule)
        loop = dear_loop(graph, some_factor)
        if loop is None:
            return None
        found.append((rule, loop_rows(graph, loop)))
    return found


def reduced(system, rule):
    """A rule with as few states as possible that chooses the same modes for all rows of the system."""
    check(system, rule)
    names = system.names
    states = [{kind: state[kind] for kind in names} for state in rule.states()]
    groups = groups_of_states(names, states)
    # The groups are numbered anew as rows reach them: so those that none reaches are left out.
    graph = Graph(groups[0], lambda group: group_steps(names, states, groups, group), None)
    return Rule([{edge[0][0]: (edge[0][1], edge[1]) for edge in edges} for edges in graph.edges])


def check_count(system, many):
    """Raises TooManyRules if too many rules with so many states, and no other keys than the kinds, fit the system."""
    count = 1
    for _ in range(many):
        for kind in system.names:
            count *= len(steps_for(system, kind, many))
    if count > MOST_RULES:
        raise TooManyRules()


def all_rules(system, many):
    """The list of all rules with so many states that fit the system and have no other keys than its kinds."""
    found = [{}]
    for kind in system.names:
        found = [{**state, kind: step} for state in found for step in steps_for(system, kind, many)]
    lists = [[]]
    for _ in range(many):
        lists = [[*states, state] for states in lists for state in found]
    return [Rule(states) for states in lists]


def steps_for(system, kind, many):
    """The list of all pairs (mode, next state) that a rule with so many states may have for a kind."""
    able = [mode for mode in range(system.modes) if can_serve(system, kind, mode)]
    return [(mode, following) for mode in able for following in range(many)]


def rule_graph(moves, rule):
    """The graph of the pairs (state, number of a position) that a rule reaches, with the kinds as labels."""
    return Graph((0, 0), lambda place: rule_steps(moves, rule, place), None)


def rule_steps(moves, rule, place):
    """The steps of a rule from a pair (state, number of a position), one for each kind."""
    state, number = place
    found = []
    for kind in moves[number]:
        mode, following = rule.step(state, kind)
        behind, cost, grown = moves[number][kind][mode]
        found.append((kind, (following, behind), cost, grown))
    return found


def groups_of_states(names, states):
    """For each state the first one that chooses the same modes as it for all rows of these kinds."""
    groups = [0 for state in states]
    while True:
        looks = [[(state[kind][0], groups[state[kind][1]]) for kind in names] for state in states]
        found = [looks.index(look) for look in looks]
        if found == groups:
            return groups
        groups = found


def group_steps(names, states, groups, group):
    """The steps from a group of states, the first one of which has the number of the group."""
    state = states[group]
    return [((kind, state[kind][0]), groups[state[kind][1]], 0, 0) for kind in names]
