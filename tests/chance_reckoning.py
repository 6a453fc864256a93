"""Slow, plain reckoning of sources and averages, after the words of the points."""

from fractions import Fraction

from latewise.errors import BadSource
from latewise.sources import Source
from reckoning import able_modes, cost_of_step, growth_by_hand, spread, start_of


def drawn_source(draw, names, many):
    """A source with so many states, drawn."""
    while True:
        states = []
        for _ in range(many):
            kinds = draw.sample(list(names), draw.randint(1, len(names)))
            states.append({kind: (draw.randint(1, 9), draw.randrange(many)) for kind in kinds})
        try:
            return Source(states)
        except BadSource:
            continue


def round_source(draw, names, many):
    """A source with so many states, one kind each, that goes round."""
    return Source([{draw.choice(list(names)): (draw.randint(1, 9), (at + 1) % many)} for at in range(many)])


def doubled_source(draw, source):
    """A source that draws alike, with twice as many states, or as many where they would be too many."""
    states = source.states()
    many = len(states)
    while 2 * many <= 4:
        told = [
            {kind: (part, following + many * draw.randrange(2)) for kind, (part, following) in state.items()}
            for state in states * 2
        ]
        try:
            return Source(told)
        except BadSource:
            # A state that is not reached, or not left: drawn anew.
            if many == 1 and len(states[0]) == 1:
                return Source([{kind: (part, 1 - at) for kind, (part, _) in states[0].items()} for at in range(2)])
    return source


def some_source(draw, names, many):
    """A source of one of these kinds."""
    if draw.randrange(4) == 0:
        return round_source(draw, names, many)
    if draw.randrange(3) == 0 and many in (2, 4):
        return doubled_source(draw, drawn_source(draw, names, many // 2))
    return drawn_source(draw, names, many)


def chance_by_hand(source, row, state=0):
    """The chance of a row from a state on, and the state behind it."""
    found = Fraction(1)
    states = source.states()
    for kind in row:
        if kind not in states[state]:
            return Fraction(0), None
        part, following = states[state][kind]
        found *= Fraction(part, sum(one for one, _ in states[state].values()))
        state = following
    return found, state


def rows_that_can_come(source, many):
    """All rows of so many requests that can come."""
    rows = [[]]
    for _ in range(many):
        rows = [row + [kind] for row in rows for kind in source.states()[chance_by_hand(source, row)[1]]]
    return rows


def draws_by_hand(source, state):
    """The list of (kind, chance, next state) of a state."""
    kinds = source.states()[state]
    whole = sum(part for part, _ in kinds.values())
    return [(kind, Fraction(part, whole), following) for kind, (part, following) in kinds.items()]


def rule_positions_by_hand(system, rule, source, most=2000):
    """A dict from the positions of a rule with a source to lists of (kind, position behind, cost, chance)."""
    table = rule.states()

    def steps(position):
        place, state, mode = position
        found = []
        for kind, odds, behind in draws_by_hand(source, place):
            chosen, following = table[state][kind]
            found.append((kind, (behind, following, chosen), cost_of_step(system, mode, kind, chosen), odds))
        return found

    return spread((0, 0, 0), steps, most)


def best_positions_by_hand(system, source, most=2000):
    """A dict from the positions of the best with a source to lists of (kind, position behind, growth, chance)."""

    def steps(position):
        place, owed = position
        found = []
        for kind, odds, behind in draws_by_hand(source, place):
            grown, owed_behind = growth_by_hand(system, owed, kind)
            found.append((kind, (behind, owed_behind), grown, odds))
        return found

    return spread((0, start_of(system)), steps, most)


def rates_by_hand(steps):
    """The rates of all places of a chain: all equations of point 26 at once, solved by adding rows to each other.

    The offsets are not the only ones: those that are free are 0.
    """
    places = list(steps)
    many = len(places)
    column = {place: at for at, place in enumerate(places)}
    rows = []
    for place in places:
        rate = [Fraction(0)] * (2 * many + 1)
        both = [Fraction(0)] * (2 * many + 1)
        rate[column[place]] += 1
        both[column[place]] += 1
        both[many + column[place]] += 1
        for _, behind, cost, odds in steps[place]:
            rate[column[behind]] -= odds
            both[many + column[behind]] -= odds
            both[-1] += odds * cost
        rows += [rate, both]
    found = {}
    for at in range(2 * many):
        pivot = next((row for row in rows if row[at] != 0), None)
        if pivot is None:
            continue
        rows.remove(pivot)
        pivot = [number / pivot[at] for number in pivot]
        rows = [subtracted(row, pivot, at) for row in rows]
        found = {other: subtracted(row, pivot, at) for other, row in found.items()}
        found[at] = pivot
    assert all(row[-1] == 0 for row in rows)
    return {place: found[at][-1] for at, place in enumerate(places)}


def subtracted(row, pivot, at):
    """The row without what it has in a column, by means of a row that has 1 there."""
    return row if row[at] == 0 else [one - row[at] * other for one, other in zip(row, pivot)]


def is_table_by_hand(steps, table):
    """As point 26 tells it, for a dict from just the positions to pairs of fractions."""
    for place, some in steps.items():
        rate, offset = Fraction(*table[place][0]), Fraction(*table[place][1])
        if rate != sum(odds * Fraction(*table[behind][0]) for _, behind, _, odds in some):
            return False
        if rate + offset != sum(odds * (cost + Fraction(*table[behind][1])) for _, behind, cost, odds in some):
            return False
    return True


def expected_by_hand(steps, first, many):
    """What so many steps cost from the first place on, averaged over all rows."""
    if many == 0:
        return Fraction(0)
    return sum(odds * (cost + expected_by_hand(steps, behind, many - 1)) for _, behind, cost, odds in steps[first])


def told(fraction):
    """A Fraction as the document writes it."""
    fraction = Fraction(fraction)
    return fraction.numerator, fraction.denominator


def pairs_by_hand(system, source):
    """All pairs (state of the source, mode)."""
    return [(place, mode) for place in range(len(source.states())) for mode in range(system.modes)]


def ordered_steps(system, source, orders):
    """A dict from all pairs to lists of (kind, pair behind, cost, chance), by orders."""
    return {
        (place, mode): [
            (kind, (behind, orders[place, mode][kind]), cost_of_step(system, mode, kind, orders[place, mode][kind]), odds)
            for kind, odds, behind in draws_by_hand(source, place)
        ]
        for place, mode in pairs_by_hand(system, source)
    }


def are_prices_by_hand(system, source, fraction, some_prices):
    """As point 28 tells it, for a dict from all pairs to fractions."""
    for place, mode in pairs_by_hand(system, source):
        least = 0
        for kind, odds, behind in draws_by_hand(source, place):
            least += odds * min(
                cost_of_step(system, mode, kind, chosen) + Fraction(*some_prices[behind, chosen])
                for chosen in able_modes(system, kind)
            )
        if least < Fraction(*fraction) + Fraction(*some_prices[place, mode]):
            return False
    return True


def keep_by_hand(system, source, fraction, some_prices, orders):
    """As point 28 tells it, for prices, and for a dict from all pairs to orders."""
    steps = ordered_steps(system, source, orders)
    for pair, some in steps.items():
        paid = sum(odds * (cost + Fraction(*some_prices[behind])) for _, behind, cost, odds in some)
        if paid > Fraction(*fraction) + Fraction(*some_prices[pair]):
            return False
    return are_prices_by_hand(system, source, fraction, some_prices)


def wrong_fractions():
    """New values that are no fractions in lowest terms, such that look like some among them."""
    near = [
        (2, 4), (0, 2), (0, 0), (0, -1), (1, 0), (-1, -2), (1, -2), (-2, 4), (3, 3), (1,), (1, 2, 1), [1, 2], {1: 2},
        (True, 2), (False, 1), (1, True), (True, True), (1, False), ("1", 2), (1, "2"), (None, 1), (1, None), ((1, 2), 1),
        (10 ** 400, 10 ** 400), (10 ** 400, 5), "12", 1, 0,
    ]
    odd = [None, True, False, -1, 10 ** 5000, "", "p", (), (0,), [], [None], {}, {"p": None}, {(): 0}]
    deep = [[]]
    for _ in range(48):
        deep = [deep]
    return odd + near + [deep, {"a": deep}, (deep,), (deep, deep)]
