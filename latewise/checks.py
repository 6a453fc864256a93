"""What values of any kind are asked, where a parameter accepts all of them."""

MOST_LETTERS = 8


def is_integer_within(value, least, most):
    """True if the value is an integer from least to most."""
    # To Python, True and False are integers; to the document they are not.
    if isinstance(value, bool) or not isinstance(value, int):
        return False
    return least <= value <= most


def is_name(value):
    """True if the value is a name of a kind: a string of one to eight letters from a to z."""
    if not isinstance(value, str) or not 1 <= len(value) <= MOST_LETTERS:
        return False
    return all(["a" <= letter <= "z" for letter in value])
