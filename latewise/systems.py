"""Systems: modes, the costs of switching between them, and the costs of serving in them."""

from latewise.checks import is_integer_within, is_name
from latewise.errors import BadKinds, BadSwitches

MOST_MODES = 4
MOST_KINDS = 4
MOST_COST = 4
# Stands for the cost of what cannot be: more than each sum of a debt, a switch and a service.
FAR = 1000000


class System:
    """A system. It never changes."""

    def __init__(self, switches, kinds):
        if not are_switches(switches):
            raise BadSwitches()
        if not are_kinds(kinds, len(switches)):
            raise BadKinds()
        self.modes = len(switches)
        self.names = tuple(sorted(kinds))
        self._switches = [list(costs) for costs in switches]
        self._kinds = {name: list(kinds[name]) for name in self.names}
        self._arrivals = tuple([arrival(self._switches, mode) for mode in range(MOST_MODES)])
        self._ways = {name: ways_of_serving(self._arrivals, self._kinds[name]) for name in self.names}

    def __eq__(self, other):
        return isinstance(other, System) and self._switches == other._switches and self._kinds == other._kinds

    def switch(self, first, second):
        """The cost of switching from the first mode to the second one."""
        return self._switches[first][second]

    def service(self, kind, mode):
        """The cost of serving the kind in the mode, or None if the mode cannot serve it."""
        return self._kinds[kind][mode]

    def price(self, mode, kind, chosen):
        """The cost of switching from a mode to the chosen one and of serving the kind in this one, which can."""
        return self._switches[mode][chosen] + self._kinds[kind][chosen]

    def arrivals(self):
        """For each of four modes, those that are lacking too, the costs of switching to it from each of them."""
        return self._arrivals

    def ways(self, kind):
        """The arrivals, each of them with the cost of serving the kind in its mode as one number more."""
        return self._ways[kind]

    def switches(self):
        """The switches, as they can be handed in."""
        return [list(costs) for costs in self._switches]

    def kinds(self):
        """The kinds, as they can be handed in."""
        return {name: list(self._kinds[name]) for name in self.names}


def are_switches(value):
    """True if the value is the switches of a system."""
    if not isinstance(value, list) or not 1 <= len(value) <= MOST_MODES:
        return False
    return all([are_switches_from(value[mode], mode, len(value)) for mode in range(len(value))])


def are_switches_from(value, mode, modes):
    """True if the value is the list of the costs of switching from the mode to each one."""
    if not isinstance(value, list) or len(value) != modes:
        return False
    return all([is_integer_within(cost, 0, MOST_COST) for cost in value]) and value[mode] == 0


def are_kinds(value, modes):
    """True if the value is the kinds of a system with so many modes."""
    if not isinstance(value, dict) or not 1 <= len(value) <= MOST_KINDS:
        return False
    return all([is_name(name) and are_services(value[name], modes) for name in value])


def are_services(value, modes):
    """True if the value is the list of the costs of serving a kind in each mode."""
    if not isinstance(value, list) or len(value) != modes:
        return False
    served = [cost for cost in value if cost is not None]
    return len(served) > 0 and all([is_integer_within(cost, 0, MOST_COST) for cost in served])


def arrival(switches, mode):
    """The costs of switching from each of four modes to the given one; FAR where one of the two is lacking."""
    modes = len(switches)
    return tuple([switches[first][mode] if max(first, mode) < modes else FAR for first in range(MOST_MODES)])


def ways_of_serving(arrivals, services):
    """The arrivals, each of them with the service of its mode behind it; FAR where the mode cannot serve."""
    told = [FAR if cost is None else cost for cost in services] + [FAR] * (MOST_MODES - len(services))
    return tuple([(*costs, cost) for costs, cost in zip(arrivals, told)])
