"""Slow, plain reckoning of spots, positions, loops and rows, after the words of the points.

Nothing of it is the program's, but that systems and rules tell what they were made of.
"""

from fractions import Fraction
from itertools import product
from math import gcd
from random import Random

from latewise.errors import WiseError
from latewise.rules import Rule
from latewise.systems import System

NAMES = ["a", "bb", "ccc", "abcdefgh"]


def drawn_system(draw, modes, kinds, barred=4):
    """A system of a size, its costs drawn; one service of so many cannot be."""
    while True:
        switches = [[0 if k == j else draw.randint(0, 4) for j in range(modes)] for k in range(modes)]
        services = [[None if draw.randrange(barred) == 0 else draw.randint(0, 4) for _ in range(modes)]
                    for _ in range(kinds)]
        try:
            return System(switches, dict(zip(NAMES, services)))
        except WiseError:
            continue


def able_modes(system, kind):
    """The modes that can serve a kind."""
    services = system.kinds()[kind]
    return [mode for mode in range(system.modes) if services[mode] is not None]


def drawn_rule(draw, system, many):
    """A rule with so many states that fits a system, drawn."""
    return Rule([
        {kind: (draw.choice(able_modes(system, kind)), draw.randrange(many)) for kind in system.names}
        for _ in range(many)
    ])


def drawn_pairs(seed, many, sizes=None, most=8):
    """So many systems of each size, each with a rule that fits it."""
    draw = Random(seed)
    found = []
    for modes, kinds in sizes or product(range(1, 5), range(1, 5)):
        for _ in range(many):
            system = drawn_system(draw, modes, kinds)
            found.append((system, drawn_rule(draw, system, draw.randint(1, most))))
    return found


def start_of(system):
    """The debts of the empty row."""
    return tuple([0] + [None] * (system.modes - 1))


def cost_of_step(system, mode, kind, chosen):
    """The cost of a request in a mode, served in the chosen one."""
    return system.switches()[mode][chosen] + system.kinds()[kind][chosen]


def growth_by_hand(system, some_debts, kind):
    """The growth at a request and the debts behind it."""
    totals = {}
    for chosen in able_modes(system, kind):
        totals[chosen] = min(
            some_debts[mode] + cost_of_step(system, mode, kind, chosen)
            for mode in range(system.modes) if some_debts[mode] is not None
        )
    least = min(totals.values())
    return least, tuple(totals[mode] - least if mode in totals else None for mode in range(system.modes))


def spread(first, steps, most=2000):
    """A dict from all places that can be reached to their steps; None if there are more than so many."""
    found = {}
    waiting = [first]
    while waiting:
        place = waiting.pop()
        if place not in found:
            found[place] = steps(place)
            waiting.extend(step[1] for step in found[place])
        if len(found) > most:
            return None
    return found


def spots_by_hand(system, rule, most=2000, first=None):
    """A dict from the spots of a rule, from the beginning or another first one on, to lists of (kind, spot behind, cost,
    growth)."""
    states = rule.states()

    def steps(spot):
        state, mode, some_debts = spot
        told = []
        for kind in system.kinds():
            chosen, following = states[state][kind]
            grown, owed = growth_by_hand(system, some_debts, kind)
            told.append((kind, (following, chosen, owed), cost_of_step(system, mode, kind, chosen), grown))
        return told

    return spread(first or (0, 0, start_of(system)), steps, most)


def positions_by_hand(system, most=2000):
    """A dict from all positions to lists of ((kind, mode), position behind, cost, growth)."""

    def steps(position):
        mode, some_debts = position
        told = []
        for kind in system.kinds():
            grown, owed = growth_by_hand(system, some_debts, kind)
            for chosen in able_modes(system, kind):
                told.append(((kind, chosen), (chosen, owed), cost_of_step(system, mode, kind, chosen), grown))
        return told

    return spread((0, start_of(system)), steps, most)


def pairs_by_hand(system, first, second):
    """A dict from what two rules reach to lists of (kind, what is behind, difference of the costs, 0)."""
    one, other = first.states(), second.states()

    def steps(pair):
        told = []
        for kind in system.kinds():
            chosen, following = one[pair[0]][kind]
            chosen_too, following_too = other[pair[2]][kind]
            cost = cost_of_step(system, pair[1], kind, chosen)
            cost_too = cost_of_step(system, pair[3], kind, chosen_too)
            told.append((kind, (following, chosen, following_too, chosen_too), cost - cost_too, 0))
        return told

    return spread((0, 0, 0, 0), steps)


def all_loops(steps):
    """The pairs (cost, growth) of all loops that pass no place twice, each of them tried out."""
    order = {place: number for number, place in enumerate(steps)}
    found = {}
    for first in steps:
        waiting = [(first, [first], 0, 0)]
        while waiting:
            place, passed, cost, grown = waiting.pop()
            for step in {one[1:]: True for one in steps[place]}:
                if step[0] == first:
                    found[cost + step[1], grown + step[2]] = True
                elif order[step[0]] > order[first] and step[0] not in passed:
                    waiting.append((step[0], passed + [step[0]], cost + step[1], grown + step[2]))
    return list(found)


def count_of_loops_is_small(steps, most=20000):
    """True if all loops can be tried out in a moment."""
    ways = 1
    for place in steps:
        ways *= len({one[1:] for one in steps[place]})
    return ways <= most


def least_of_loops(loops):
    """The least factor of at least (1, 1) that all these loops keep; None if there is none."""
    if any(grown == 0 and cost > 0 for cost, grown in loops):
        return None
    ratio = max([Fraction(1)] + [Fraction(cost, grown) for cost, grown in loops if grown > 0])
    return ratio.numerator, ratio.denominator


def dearest_from_all(steps, worth):
    """For each place the dearest walk, worked out by lengthening walks by one step at a time; None if it has no end."""
    now = {place: 0 for place in steps}
    for _ in range(len(steps) + 1):
        ahead = {
            place: max([0] + [worth(step) + now[step[1]] for step in steps[place]]) for place in steps
        }
        if ahead == now:
            return now
        now = ahead
    return None


def has_dear_loop(steps, worth):
    """True if some loop is worth more than 0: between all places the dearest walks, by way of one place after another."""
    places = list(steps)
    found = {}
    for place in places:
        for step in steps[place]:
            key = place, step[1]
            found[key] = max(found.get(key, worth(step)), worth(step))
    for middle in places:
        into = [(place, found[place, middle]) for place in places if (place, middle) in found]
        out = [(place, found[middle, place]) for place in places if (middle, place) in found]
        for first, ahead in into:
            for last, behind in out:
                if found.get((first, last), ahead + behind - 1) < ahead + behind:
                    found[first, last] = ahead + behind
                if first == last and found[first, last] > 0:
                    return True
    return False


def follow(system, rule, row):
    """The spot behind a row by a rule, the cost of the row, and its best."""
    states = rule.states()
    state, mode, owed, cost, best = 0, 0, start_of(system), 0, 0
    for kind in row:
        chosen, following = states[state][kind]
        grown, owed = growth_by_hand(system, owed, kind)
        cost += cost_of_step(system, mode, kind, chosen)
        best += grown
        state, mode = following, chosen
    return (state, mode, owed), cost, best


def follow_loop(system, rule, rows):
    """The cost and the growth of a loop, rows being a pair of rows of which the second one leads back to its spot."""
    lead, loop = rows
    ahead, cost, best = follow(system, rule, lead)
    behind, whole_cost, whole_best = follow(system, rule, lead + loop)
    assert loop and ahead == behind, rows
    return whole_cost - cost, whole_best - best


def is_lowest(fraction):
    """True if the value is a factor."""
    top, bottom = fraction
    return type(fraction) is tuple and type(top) is type(bottom) is int and top >= bottom >= 1 == gcd(top, bottom)
