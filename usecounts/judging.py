"""Books, and what they tell of programs."""

from usecounts.basics import is_pair
from usecounts.errors import BadBook, Faulty, NoHanded
from usecounts.judged import Judged
from usecounts.kinds import is_kind_of_any_size
from usecounts.kindtable import marks
from usecounts.lots import Lot, RawLot
from usecounts.names import is_name
from usecounts.shapes import need_program

MOST_TOOLS = 8
MOST_HANDED = 6


class Book:
    """A lot, and tools, which are names with kinds."""

    def __init__(self, lot, tools):
        if not isinstance(lot, Lot) and not isinstance(lot, RawLot):
            raise BadBook("lot")
        if not _is_named(MOST_TOOLS, tools):
            raise BadBook("tools")
        self.lot = lot
        self.tools = tools
        # Great kinds are too deep to be compared as they are.
        self._told = tuple([(name, marks(kind)) for name, kind in tools])

    def __eq__(self, other):
        return isinstance(other, Book) and self.lot == other.lot and self._told == other._told


def _is_named(most, thing):
    """Whether a thing is a tuple of at most so many pairs of names, all unlike, and kinds."""
    if not isinstance(thing, tuple) or len(thing) > most:
        return False
    if not all([is_pair(item) and is_name(item[0]) and is_kind_of_any_size(item[1]) for item in thing]):
        return False
    return len(set([name for name, _ in thing])) == len(thing)


def is_handed(book, thing):
    """Whether a thing may be handed to programs beside the tools of a book."""
    if not _is_named(MOST_HANDED, thing):
        return False
    tools = [name for name, _ in book.tools]
    return not any([name in tools for name, _ in thing])


def need_handed(book, thing):
    """Raise NoHanded for what may not be handed."""
    if not is_handed(book, thing):
        raise NoHanded()


def judged(book, handed, program):
    """The program as the book and what is handed judge it: NoHanded, NoProgram."""
    need_handed(book, handed)
    need_program(program)
    return Judged(book.lot, book.tools, handed, program)


def right(book, handed, program):
    """The right program as it is judged: NoHanded, NoProgram, Faulty."""
    found = judged(book, handed, program)
    if found.fault is not None:
        raise Faulty(found.fault)
    return found


def fault(book, handed, program):
    """The first fault of a program, or None if it is right."""
    return judged(book, handed, program).fault


def kind_of(book, handed, program):
    """The kind of a right program."""
    return right(book, handed, program).kind()
