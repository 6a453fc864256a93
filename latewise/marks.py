"""Marks, to which what runs can go back."""

from latewise.checks import is_integer_within
from latewise.errors import UnknownMark


class Marks:
    """The marks that are set, each with a tuple of what was told when it was set."""

    def __init__(self):
        self._held = []

    def hold(self, told):
        """Sets a mark that holds the tuple; returns its number."""
        self._held.append(told)
        return len(self._held) - 1

    def held(self, number):
        """What the mark with the number, which may be any value, holds; later marks end."""
        if not is_integer_within(number, 0, len(self._held) - 1):
            raise UnknownMark(number)
        del self._held[number + 1:]
        return self._held[number]
