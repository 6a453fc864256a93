"""Rules, which choose the mode of a request without knowing later ones."""

from latewise.checks import is_integer_within, is_name
from latewise.errors import BadRule, Unfit
from latewise.hindsight import can_serve, check_row, plan_cost

MOST_STATES = 8
MOST_MODE = 3


class Rule:
    """A rule. It never changes."""

    def __init__(self, states):
        if not are_states(states):
            raise BadRule()
        self._states = [{name: state[name] for name in sorted(state)} for state in states]

    def __eq__(self, other):
        return isinstance(other, Rule) and self._states == other._states

    def states(self):
        """The list of the states, as they can be handed in."""
        return [dict(state) for state in self._states]

    def step(self, state, kind):
        """The pair (mode, next state) that the rule has in a state for a kind."""
        return self._states[state][kind]


def check(system, rule):
    """Raises Unfit with the first state and kind for which the rule does not fit the system, if there are any."""
    for place, state in enumerate(rule.states()):
        for kind in system.names:
            if kind not in state or not can_serve(system, kind, state[kind][0]):
                raise Unfit(place, kind)


def modes_of(system, rule, row):
    """The list of the modes that a rule chooses for a row."""
    check(system, rule)
    check_row(system, row)
    modes = []
    state = 0
    for kind in row:
        mode, state = rule.step(state, kind)
        modes.append(mode)
    return modes


def cost(system, rule, row):
    """The cost of a row by a rule: that of the plan of its modes."""
    return plan_cost(system, row, modes_of(system, rule, row))


def are_states(value):
    """True if the value is the states of a rule."""
    if not isinstance(value, list) or not 1 <= len(value) <= MOST_STATES:
        return False
    return all([is_state(state, len(value)) and have_same_keys(state, value[0]) for state in value])


def is_state(value, many):
    """True if the value is a dict that a state of a rule with so many states may have."""
    if not isinstance(value, dict) or len(value) == 0:
        return False
    return all([is_name(name) and is_step(value[name], many) for name in value])


def is_step(value, many):
    """True if the value is a pair (mode, next state) of a rule with so many states."""
    if not isinstance(value, tuple) or len(value) != 2:
        return False
    return is_integer_within(value[0], 0, MOST_MODE) and is_integer_within(value[1], 0, many - 1)


def have_same_keys(state, first):
    """True if the first value is a dict with the same keys as the given one."""
    return isinstance(first, dict) and len(first) == len(state) and all([name in first for name in state])
