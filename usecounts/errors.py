"""The errors of the package: each is a CountsError, and none is another one.

Each has an __init__ of its own, so that it is made with just its fields.
"""


class CountsError(ValueError):
    """Anything that the package refuses."""


class BadLot(CountsError):
    """A part of what a lot or a raw lot was made with is not right."""

    def __init__(self, part):
        self.part = part


class BadBook(CountsError):
    """A part of what a book was made with is not right."""

    def __init__(self, part):
        self.part = part


class BadHouse(CountsError):
    """A part of what a house was made with is not right."""

    def __init__(self, part):
        self.part = part


class BadText(CountsError):
    """No text goes on with the sign at this index."""

    def __init__(self, index):
        self.index = index


class Faulty(CountsError):
    """A program is not right: it has this fault."""

    def __init__(self, fault):
        self.fault = fault


class TooMany(CountsError):
    """There are more than this many."""

    def __init__(self, most):
        self.most = most


class Unknown(CountsError):
    """There is no entry of this name."""

    def __init__(self, name):
        self.name = name


class NoNumber(CountsError):
    """What has to be a number, within its bounds, is none."""

    def __init__(self):
        pass


class NoKind(CountsError):
    """What has to be a kind is none."""

    def __init__(self):
        pass


class NoProgram(CountsError):
    """What has to be a program is none."""

    def __init__(self):
        pass


class NoPlace(CountsError):
    """What has to be a place of the program is none."""

    def __init__(self):
        pass


class NoHanded(CountsError):
    """What has to be names with kinds that are handed is not."""

    def __init__(self):
        pass


class NoStep(CountsError):
    """There is no step at the place."""

    def __init__(self):
        pass


class NotFlat(CountsError):
    """The machine runs no such books or programs."""

    def __init__(self):
        pass


class NoFunctions(CountsError):
    """What has to be a dict from the names of the tools to functions is none."""

    def __init__(self):
        pass


class IsOver(CountsError):
    """The run has come to its outcome."""

    def __init__(self):
        pass


class NothingDone(CountsError):
    """There is nothing to take back, or nothing to do again."""

    def __init__(self):
        pass


class NotLet(CountsError):
    """Such a lot, or such tools with this lot, are not let here."""

    def __init__(self):
        pass


class NoBag(CountsError):
    """What has to be a bag is none."""

    def __init__(self):
        pass


class NoPart(CountsError):
    """What has to be a part is none."""

    def __init__(self):
        pass


class NoName(CountsError):
    """What has to be a name is none."""

    def __init__(self):
        pass


class Full(CountsError):
    """The library has as many tools as it may have."""

    def __init__(self):
        pass


class NoWish(CountsError):
    """The entry is no wish."""

    def __init__(self):
        pass


class NotMade(CountsError):
    """No program makes what is wished."""

    def __init__(self):
        pass


class NotWhole(CountsError):
    """The entry has no kind, or is led to a wish."""

    def __init__(self):
        pass


class NoText(CountsError):
    """What has to be a journal is none."""

    def __init__(self):
        pass
