"""The errors of the program: wrong values, and questions without an answer."""


class WrongValue(ValueError):
    """A value that was passed is not what is asked for."""


class InvalidText(WrongValue):
    """The value is not the text that is asked for."""

    def __init__(self, given):
        self.given = given


class InvalidNumber(WrongValue):
    """The value is not the number of a choice."""

    def __init__(self, given):
        self.given = given


class InvalidName(WrongValue):
    """The value is not a name that can be used here."""

    def __init__(self, given):
        self.given = given


class InvalidIndex(WrongValue):
    """The value is not an index that can be used here."""

    def __init__(self, given):
        self.given = given


class InvalidClaim(WrongValue):
    """The value is not a claim."""

    def __init__(self, given):
        self.given = given


class InvalidChoice(WrongValue):
    """The value is not a choice of the web."""

    def __init__(self, given):
        self.given = given


class UnknownName(WrongValue):
    """The value is not a name that is known here."""

    def __init__(self, given):
        self.given = given


class NotAWeb(WrongValue):
    """The value is not a web."""

    def __init__(self, given):
        self.given = given


class NotAShelf(WrongValue):
    """The value is not a shelf."""

    def __init__(self, given):
        self.given = given


class InvalidSources(WrongValue):
    """The value is not a tuple of sources for a new copy."""

    def __init__(self, given):
        self.given = given


class InvalidTold(WrongValue):
    """The element at the index is not a told line; None: the value is no tuple."""

    def __init__(self, index):
        self.index = index


class InvalidWeights(WrongValue):
    """The element at the index is not a weight; None: the whole value is not right."""

    def __init__(self, index):
        self.index = index


class InvalidOffers(WrongValue):
    """The element at the index is not an offered line; None: the whole value is not right."""

    def __init__(self, index):
        self.index = index


class InvalidFreed(WrongValue):
    """The element at the index is not a freed source; None: the value is no tuple."""

    def __init__(self, index):
        self.index = index


class NoAnswer(ArithmeticError):
    """All values are right, but what is asked for cannot be."""


class NoChoice(NoAnswer):
    """The web has no choice that is asked for."""


class TooMany(NoAnswer):
    """There are too many copies or choices; the number tells how many."""

    def __init__(self, number):
        self.number = number


class FullSource(NoAnswer):
    """The source has two copies already."""

    def __init__(self, given):
        self.given = given


class Broken(NoAnswer):
    """The claim at the index would not hold; `told` is what holds instead."""

    def __init__(self, index, told):
        self.index = index
        self.told = told


class InUse(NoAnswer):
    """The claim at the index names what should go."""

    def __init__(self, index):
        self.index = index


class NothingToUndo(NoAnswer):
    """There is no change that could be taken back."""
