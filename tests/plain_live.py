"""A live machine as point 17 tells it, reckoned anew from all that was done."""

from latewise.errors import OtherModes, TooDear, TooManyStates, Unfit, UnknownKind, UnknownMark
from reckoning import able_modes, cost_of_step, dearest_from_all, growth_by_hand, spots_by_hand, start_of


def fit_by_hand(system, rule):
    """Raises Unfit as point 7 tells it."""
    for place, state in enumerate(rule.states()):
        for kind in sorted(system.kinds()):
            if kind not in state or state[kind][0] not in able_modes(system, kind):
                raise Unfit(place, kind)


def left_by_hand(system, rule, some_factor, spot):
    """What is left at a spot."""
    steps = spots_by_hand(system, rule, 1000, spot)
    if steps is None:
        raise TooManyStates()
    top, bottom = some_factor
    numbers = dearest_from_all(steps, lambda step: bottom * step[2] - top * step[3])
    if numbers is None:
        raise TooDear()
    return numbers[spot]


class PlainLive:
    """A live machine. All that it is stands in one dict; a mark is a copy of it."""

    def __init__(self, system, rule, some_factor):
        fit_by_hand(system, rule)
        self.some_factor = some_factor
        self.marks = []
        spot = 0, 0, start_of(system)
        left = left_by_hand(system, rule, some_factor, spot)
        self.now = {"system": system, "rule": rule, "spot": spot, "paid": 0, "best": 0, "left": left, "allowance": left}

    def told(self):
        """What a live machine tells, in the order of the interface."""
        now = self.now
        state, mode, owed = now["spot"]
        return [now["system"], now["rule"], mode, state, now["paid"], now["best"], owed, now["left"], now["allowance"]]

    def serve(self, kind):
        now = self.now
        system = now["system"]
        if not isinstance(kind, str) or kind not in system.kinds():
            raise UnknownKind(kind)
        state, mode, owed = now["spot"]
        chosen, following = now["rule"].states()[state][kind]
        cost = cost_of_step(system, mode, kind, chosen)
        grown, owed = growth_by_hand(system, owed, kind)
        spot = following, chosen, owed
        left = left_by_hand(system, now["rule"], self.some_factor, spot)
        self.now = {**now, "spot": spot, "paid": now["paid"] + cost, "best": now["best"] + grown, "left": left}
        return chosen, cost

    def change(self, system, rule, spot):
        fit_by_hand(system, rule)
        left = left_by_hand(system, rule, self.some_factor, spot)
        rise = max(0, left - self.now["left"])
        allowance = self.now["allowance"] + rise
        self.now = {**self.now, "system": system, "rule": rule, "spot": spot, "left": left, "allowance": allowance}
        return rise

    def change_rule(self, rule):
        return self.change(self.now["system"], rule, (0, *self.now["spot"][1:]))

    def change_system(self, system):
        if system.modes != self.now["system"].modes:
            raise OtherModes()
        return self.change(system, self.now["rule"], self.now["spot"])

    def mark(self):
        self.marks.append(dict(self.now))
        return len(self.marks) - 1

    def back(self, number):
        if type(number) is not int or not 0 <= number < len(self.marks):
            raise UnknownMark(number)
        self.marks = self.marks[:number + 1]
        self.now = dict(self.marks[number])
