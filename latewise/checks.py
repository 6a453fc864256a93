"""What values of any kind are asked, where a parameter accepts all of them."""

from math import gcd

from latewise.errors import BadFactor

MOST_LETTERS = 8


def is_integer(value):
    """True if the value is an integer."""
    # To Python, True and False are integers; to the document they are not.
    return isinstance(value, int) and not isinstance(value, bool)


def is_integer_within(value, least, most):
    """True if the value is an integer from least to most."""
    return is_integer(value) and least <= value <= most


def is_name(value):
    """True if the value is a name of a kind: a string of one to eight letters from a to z."""
    if not isinstance(value, str) or not 1 <= len(value) <= MOST_LETTERS:
        return False
    return all(["a" <= letter <= "z" for letter in value])


def is_fraction(value):
    """True if the value is a fraction in lowest terms."""
    if not isinstance(value, tuple) or len(value) != 2:
        return False
    if not is_integer(value[0]) or not is_integer(value[1]):
        return False
    return value[1] >= 1 and gcd(value[0], value[1]) == 1


def is_factor(value):
    """True if the value is a factor: a fraction in lowest terms, from (1, 1)."""
    return is_fraction(value) and value[0] >= value[1]


def check_factor(value):
    """Raises BadFactor if the value is no factor."""
    if not is_factor(value):
        raise BadFactor()


def lowest_terms(top, bottom):
    """The fraction top / bottom in lowest terms, for an integer and one from 1."""
    divisor = gcd(top, bottom)
    return top // divisor, bottom // divisor
