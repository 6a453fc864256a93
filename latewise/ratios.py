"""Fractions, pairs (top, bottom) in lowest terms with the bottom from 1: how they are added and compared."""

from math import lcm

from latewise.checks import lowest_terms


def weighed_sum(terms):
    """The sum of each integer times its fraction, for a list of pairs of them."""
    tops, bottom = with_one_bottom([fraction for weight, fraction in terms])
    return lowest_terms(sum([pair[0] * top for pair, top in zip(terms, tops)]), bottom)


def with_one_bottom(fractions):
    """The list of the tops of fractions if all of them have the same bottom, and this bottom."""
    bottom = 1
    for fraction in fractions:
        bottom = lcm(bottom, fraction[1])
    return [fraction[0] * (bottom // fraction[1]) for fraction in fractions], bottom


def is_less(first, second):
    """True if the first fraction is less than the second one."""
    return first[0] * second[1] < second[0] * first[1]
