"""The errors of the package."""


class WiseError(ValueError):
    """The base class of all errors of the package."""


class BadSwitches(WiseError):
    """The switches are no list of one to four lists as a system has it."""


class BadKinds(WiseError):
    """The kinds are no dict of one to four kinds as a system has it."""


class BadRow(WiseError):
    """The row is no list, or the thing at the index is no name of a kind."""

    def __init__(self, index):
        self.index = index


class BadPlan(WiseError):
    """The plan is no list, has another length than its row, or has no mode that can serve at the index."""

    def __init__(self, index):
        self.index = index


class BadRule(WiseError):
    """The states are no list of one to eight dicts as a rule has it."""


class Unfit(WiseError):
    """The rule does not fit the system in the state with the number place, for the kind."""

    def __init__(self, place, kind):
        self.place = place
        self.kind = kind


class BadFactor(WiseError):
    """The value is no factor."""


class TooManyStates(WiseError):
    """More spots, positions or tuples can be reached than the function takes."""


class TooManyRules(WiseError):
    """More rules fit the system than the function takes."""


class BadFollows(WiseError):
    """The follows are no dict as the system needs it."""


class OtherModes(WiseError):
    """The new system has another number of modes."""


class TooDear(WiseError):
    """There is no greatest number for what is left."""


class UnknownKind(WiseError):
    """The value is no kind of the system."""

    def __init__(self, kind):
        self.kind = kind


class UnknownMark(WiseError):
    """The value is not the number of a mark."""

    def __init__(self, number):
        self.number = number


class BadMixture(WiseError):
    """The parts are no list of pairs as a mixture has it."""


class BadRules(WiseError):
    """The rules are no list of one to three rules as mixtures need it."""


class BadSource(WiseError):
    """The states are no list of one to four dicts as a source has it."""


class UnfitSource(WiseError):
    """The source has, in the state with the number place, a kind that is none of the system."""

    def __init__(self, place, kind):
        self.place = place
        self.kind = kind


class NotDrawn(WiseError):
    """The state of the source does not have the kind."""

    def __init__(self, kind):
        self.kind = kind


class UnknownDraw(WiseError):
    """The value is no number that draws a rule of the mixture."""

    def __init__(self, number):
        self.number = number


class AlreadyDrawn(WiseError):
    """It was told before which rule was drawn."""
