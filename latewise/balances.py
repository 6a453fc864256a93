"""Balances: weights of rules by which the dearest of some loops is as cheap as can be, and counts of loops beside them.

A burden is a tuple (costs, growth, loop): what each rule of a list pays on a loop, the growth of it, above 0, and the
loop itself. Weights are a list of integers from 0, one for each rule of the list. The load of a burden by weights is
the sum of each weight times the cost of its rule; its ratio is its load divided by its growth and by all weights.
"""

from itertools import combinations
from math import gcd


def lightest(burdens, able):
    """Weights by which the greatest ratio of all burdens is as little as can be, 0 but for the able rules.

    Only weights by which the last burden has the greatest ratio are tried: there are some if the lightest weights of
    the others give it a greater one.
    """
    newest = burdens[-1]
    best = None
    for weights in balanced(burdens[:-1], newest, able):
        if is_dearest(newest, burdens, weights) and (best is None or is_lighter(newest, weights, best)):
            best = weights
    divisor = gcd_of(best)
    return [weight // divisor for weight in best]


def counted(burdens, able, weights, some_factor):
    """Pairs (count, burden), at most as many as there are able rules, on which no able rule is below the factor in all.

    The weights are the lightest ones, and the factor, above (1, 1), is the greatest ratio by them.
    """
    tight = [burden for burden in burdens if surplus_of_weights(burden, weights, some_factor) == 0]
    for many in range(len(able)):
        for some in combinations(tight, many + 1):
            for rest in combinations(able, many):
                counts = all_above_zero(crossing([[surplus(one, at, some_factor) for one in some] for at in rest]))
                if counts is not None and none_is_below(counts, some, able, some_factor):
                    divisor = gcd_of(counts)
                    return [(count // divisor, burden) for count, burden in zip(counts, some)]
    return []


def balanced(others, newest, able):
    """The weights of some able rules by which the newest burden and others, as many as these rules, have one ratio."""
    found = []
    for many in range(len(able)):
        for some in combinations(able, many + 1):
            for rest in combinations(others, many):
                shares = even_shares([newest, *rest], some)
                if shares is not None:
                    found.append([shares[some.index(at)] if at in some else 0 for at in range(len(newest[0]))])
    return found


def even_shares(burdens, some):
    """The weights above 0 of some rules by which as many burdens have one ratio; None unless there is one such way."""
    rows = [[costs[at] for at in some] + [-growth] for costs, growth, loop in burdens]
    shares = all_above_zero(crossing(rows))
    return None if shares is None else shares[:-1]


def load(burden, weights):
    """The load of a burden by weights."""
    return sum([weight * paid for weight, paid in zip(weights, burden[0])])


def is_dearest(burden, burdens, weights):
    """True if none of the burdens has a greater ratio than the given one."""
    highest = load(burden, weights)
    return all([load(other, weights) * burden[1] <= highest * other[1] for other in burdens])


def is_lighter(burden, weights, others):
    """True if the burden has a lesser ratio by the weights than by the other ones."""
    return load(burden, weights) * sum(others) < load(burden, others) * sum(weights)


def surplus(burden, at, some_factor):
    """By how much the rule at a place of the list is above the factor on a burden."""
    top, bottom = some_factor
    return bottom * burden[0][at] - top * burden[1]


def surplus_of_weights(burden, weights, some_factor):
    """By how much the rules are above the factor on a burden, by their weights."""
    return sum([weight * surplus(burden, at, some_factor) for at, weight in enumerate(weights)])


def none_is_below(counts, burdens, able, some_factor):
    """True if each able rule is at least at the factor on all burdens, each as often as it is counted."""
    sums = [
        sum([count * surplus(burden, at, some_factor) for count, burden in zip(counts, burdens)]) for at in able
    ]
    return min(sums) >= 0


def crossing(rows):
    """Integers, one more than there are rows, whose products with each row sum up to 0.

    They are all 0 if they are not the only such ones but for their multiples.
    """
    minors = [determinant(rows_without(rows, column)) for column in range(len(rows) + 1)]
    return [minor if column % 2 == 0 else -minor for column, minor in enumerate(minors)]


def determinant(rows):
    """The determinant of as many rows of integers as there are columns."""
    if len(rows) == 0:
        return 1
    parts = [entry * determinant(rows_without(rows[1:], column)) for column, entry in enumerate(rows[0])]
    return sum([part if column % 2 == 0 else -part for column, part in enumerate(parts)])


def rows_without(rows, column):
    """The rows without one column."""
    return [row[:column] + row[column + 1:] for row in rows]


def all_above_zero(numbers):
    """The numbers, or the negative of each of them, where these are all above 0; otherwise None."""
    if min(numbers) > 0:
        return numbers
    return [-number for number in numbers] if max(numbers) < 0 else None


def gcd_of(numbers):
    """The greatest common divisor of integers."""
    divisor = 0
    for number in numbers:
        divisor = gcd(divisor, number)
    return divisor
