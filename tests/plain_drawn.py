"""Live mixtures and live sources as points 30 and 31 tell them, reckoned anew from all that was done."""

from fractions import Fraction

from chance_reckoning import draws_by_hand, rule_positions_by_hand, told
from joint_reckoning import joint_by_hand, weigh_by_hand
from latewise.averages import rule_table
from latewise.errors import AlreadyDrawn, NotDrawn, TooDear, TooManyStates, UnknownDraw, UnknownKind, UnknownMark
from plain_live import fit_by_hand
from reckoning import cost_of_step, dearest_from_all, growth_by_hand, start_of


class PlainMixture:
    """A live mixture. All that it is stands in one dict; a mark is a copy of it."""

    def __init__(self, system, mixture, some_factor):
        self.system = system
        self.weights = [weight for weight, _ in mixture.parts()]
        self.rules = [rule for _, rule in mixture.parts()]
        for rule in self.rules:
            fit_by_hand(system, rule)
        joint = joint_by_hand(system, self.rules, 1000)
        if joint is None:
            raise TooManyStates()
        top, bottom = some_factor
        steps = weigh_by_hand(joint, self.weights)
        self.numbers = dearest_from_all(steps, lambda step: bottom * step[2] - top * step[3])
        if self.numbers is None:
            raise TooDear()
        nothing = (0,) * len(self.rules)
        self.allowance = self.numbers[nothing, nothing, start_of(system)]
        self.marks = []
        self.now = {
            "states": list(nothing), "modes": list(nothing), "debts": start_of(system), "paid": list(nothing), "best": 0,
            "drawn": None,
        }

    def told(self):
        """What a live mixture tells, in the order of the interface."""
        now = self.now
        left = self.numbers[tuple(now["states"]), tuple(now["modes"]), now["debts"]]
        return [now["paid"], now["best"], now["debts"], left, self.allowance, now["drawn"]]

    def serve(self, kind):
        now = self.now
        if not isinstance(kind, str) or kind not in self.system.kinds():
            raise UnknownKind(kind)
        steps = [rule.states()[state][kind] for rule, state in zip(self.rules, now["states"])]
        costs = [cost_of_step(self.system, mode, kind, chosen) for mode, (chosen, _) in zip(now["modes"], steps)]
        grown, owed = growth_by_hand(self.system, now["debts"], kind)
        self.now = {
            "states": [state for _, state in steps], "modes": [mode for mode, _ in steps], "debts": owed,
            "paid": [ahead + cost for ahead, cost in zip(now["paid"], costs)], "best": now["best"] + grown,
            "drawn": now["drawn"],
        }
        return [(chosen, cost) for (chosen, _), cost in zip(steps, costs)]

    def draw(self, number):
        if type(number) is not int or not 0 <= number < sum(self.weights):
            raise UnknownDraw(number)
        if self.now["drawn"] is not None:
            raise AlreadyDrawn()
        places = [at for at in range(len(self.weights)) if sum(self.weights[:at]) <= number < sum(self.weights[:at + 1])]
        self.now = {**self.now, "drawn": places[0]}
        return places[0]

    def mark(self):
        self.marks.append(self.now)
        return len(self.marks) - 1

    def back(self, number):
        if type(number) is not int or not 0 <= number < len(self.marks):
            raise UnknownMark(number)
        self.marks = self.marks[:number + 1]
        self.now = self.marks[number]


class PlainSource:
    """A live source."""

    def __init__(self, system, source, rule):
        if rule_positions_by_hand(system, rule, source, 80) is None:
            raise TooManyStates()
        self.system, self.source, self.rule = system, source, rule
        self.table = rule_table(system, rule, source)
        self.position = 0, 0, 0
        self.paid, self.due, self.luck = 0, Fraction(0), Fraction(0)

    def told(self):
        """What a live source tells, in the order of the interface."""
        return [self.table, self.position, self.paid, told(self.due), told(self.luck)]

    def serve(self, kind):
        place, state, mode = self.position
        if not isinstance(kind, str) or kind not in self.system.kinds():
            raise UnknownKind(kind)
        behind = [following for one, _, following in draws_by_hand(self.source, place) if one == kind]
        if not behind:
            raise NotDrawn(kind)
        chosen, following = self.rule.states()[state][kind]
        cost = cost_of_step(self.system, mode, kind, chosen)
        rate, offset = (Fraction(*fraction) for fraction in self.table[self.position])
        self.position = behind[0], following, chosen
        self.paid += cost
        self.due += rate
        self.luck += cost + Fraction(*self.table[self.position][1]) - rate - offset
        return chosen, cost
