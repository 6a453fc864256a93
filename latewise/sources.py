"""Sources, which draw requests by chance."""

from latewise.checks import is_integer_within, is_name, lowest_terms
from latewise.errors import BadSource, UnfitSource
from latewise.graphs import Graph

MOST_STATES = 4
MOST_KINDS = 4
MOST_PART = 9


class Source:
    """A source. It never changes."""

    def __init__(self, states):
        if not are_drawing_states(states):
            raise BadSource()
        self._states = [{name: state[name] for name in sorted(state)} for state in states]

    def __eq__(self, other):
        return isinstance(other, Source) and self._states == other._states

    def states(self):
        """The list of the states, as they can be handed in."""
        return [dict(state) for state in self._states]

    def draws(self, state):
        """The list of tuples (kind, part, next state) of a state, by the kinds in ascending order."""
        return [(kind, part, following) for kind, (part, following) in self._states[state].items()]


def check_source(system, source):
    """Raises UnfitSource with the first state and the first kind of it that is none of the system, if there is one."""
    for place, state in enumerate(source.states()):
        for kind in state:
            if kind not in system.names:
                raise UnfitSource(place, kind)


def chance(source, row):
    """The chance of a row, a fraction, for a list of strings."""
    states = source.states()
    chances = [chances_of(state) for state in states]
    top = 1
    bottom = 1
    number = 0
    for name in row:
        if name not in states[number]:
            return 0, 1
        part, whole = chances[number][name]
        top *= part
        bottom *= whole
        number = states[number][name][1]
    return lowest_terms(top, bottom)


def parting_draws(first, second):
    """A row with the fewest requests that has not the same chance in two sources, or None if they draw alike."""
    states = first.states()
    others = second.states()
    # Up to the pairs that are reached, the chances are the same, and above 0; so they part where the next ones do.
    graph = Graph((0, 0), lambda pair: shared_steps(states[pair[0]], others[pair[1]]), None)
    for number, (state, other) in enumerate(graph.places):
        parting = parting_kinds(states[state], others[other])
        if len(parting) > 0:
            return graph.labels_to(number) + [parting[0]]
    return None


def reduced_source(source):
    """A source with as few states as possible that draws alike."""
    states = source.states()
    groups = groups_that_draw_alike(states)
    # The groups are numbered anew as rows reach them, so that the one of the first state has the number 0.
    graph = Graph(groups[0], lambda group: group_steps(states, groups, group), None)
    return Source([{kind: (part, behind) for kind, behind, part, growth in edges} for edges in graph.edges])


def are_drawing_states(value):
    """True if the value is the states of a source."""
    if not isinstance(value, list) or not 1 <= len(value) <= MOST_STATES:
        return False
    return all([is_drawing_state(state, len(value)) for state in value]) and are_joined(value)


def is_drawing_state(value, many):
    """True if the value is a dict that a state of a source with so many states may have."""
    if not isinstance(value, dict) or not 1 <= len(value) <= MOST_KINDS:
        return False
    return all([is_name(name) and is_draw(value[name], many) for name in value])


def is_draw(value, many):
    """True if the value is a pair (part, next state) of a source with so many states."""
    if not isinstance(value, tuple) or len(value) != 2:
        return False
    return is_integer_within(value[0], 1, MOST_PART) and is_integer_within(value[1], 0, many - 1)


def are_joined(states):
    """True if each state can be reached from each other one."""
    return all([len(states_reached(states, first)) == len(states) for first in range(len(states))])


def states_reached(states, first):
    """The list of the states that can be reached from the first one, and of this one."""
    return Graph(first, lambda number: following_steps(states[number]), None).places


def following_steps(state):
    """The steps from a state of a source, with the kinds as labels, and the parts in place of costs."""
    return [(kind, following, part, 0) for kind, (part, following) in state.items()]


def chances_of(state):
    """A dict from the kinds of a state to their chances."""
    whole = sum([part for part, following in state.values()])
    return {kind: lowest_terms(state[kind][0], whole) for kind in state}


def parting_kinds(state, other):
    """The kinds that have not the same chance in two states."""
    chances = chances_of(state)
    others = chances_of(other)
    return [kind for kind in sorted({**state, **other}) if chances.get(kind) != others.get(kind)]


def shared_steps(state, other):
    """The steps from two states by the kinds that have the same chance in both."""
    parting = parting_kinds(state, other)
    return [(kind, (state[kind][1], other[kind][1]), 0, 0) for kind in state if kind not in parting]


def groups_that_draw_alike(states):
    """For each state the first one from which all rows have the same chances."""
    chances = [chances_of(state) for state in states]
    groups = [0 for state in states]
    while True:
        looks = [
            (odds, {kind: groups[state[kind][1]] for kind in state}) for odds, state in zip(chances, states)
        ]
        found = [looks.index(look) for look in looks]
        if found == groups:
            return groups
        groups = found


def group_steps(states, groups, group):
    """The steps from a group of states, the first one of which has the number of the group."""
    return [(kind, groups[following], part, 0) for kind, following, part, growth in following_steps(states[group])]
