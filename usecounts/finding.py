"""Programs of a kind, or houses against it; and what tools are good for."""

from usecounts.basics import is_pair
from usecounts.errors import TooMany
from usecounts.houses import House, is_against_task
from usecounts.joinings import MOST_STANDS, lean_rows
from usecounts.judging import Book, kind_of
from usecounts.openplains import OpenPlains
from usecounts.plainwriting import PlainWriting
from usecounts.programs import MOST_WORDS
from usecounts.stepping import is_plain
from usecounts.tables import bag_rows
from usecounts.tasks import PartedTask, Task, need_let

# How far is looked at first, which is enough for the tasks that callers pass,
# and how often it is looked somewhat further.
FIRST_SIZE = 3
FIRST_NAMES = 8
MOST_FURTHER = 3


def found(book, kind):
    """The pair of "made" and a plain program of the kind, or of "not" and a house against it."""
    task = PartedTask(book, kind)
    plains = OpenPlains(task)
    for further in range(MOST_FURTHER + 1):
        house = _house_against(task, FIRST_SIZE + further, MOST_STANDS * (1 + further))
        if house is not None:
            return ("not", house)
        program = _program_of(plains, FIRST_NAMES + further)
        if program is not None:
            return ("made", program)
    # There is one of both even so, but a great one: callers pass no such tasks.
    raise TooMany(MOST_STANDS)


def _house_against(task, most_size, most_stands):
    """A house against the kind of a task, of counted bags to a size that are so many at most; or None."""
    for size in range(1, most_size + 1):
        rows = bag_rows(task, size, most_stands)
        if rows is not None:
            joining, letters = lean_rows(rows[0], rows[1])
            if len(joining) <= MOST_STANDS:
                house = House(task.lot, joining, letters)
                if is_against_task(task, house):
                    return house
    return None


def _program_of(plains, most_names):
    """The plain program with the fewest names, and of these with the fewest words; None if all have too many."""
    for names in range(1, most_names + 1):
        many, words = plains.closed(names)
        if many > 0 and words <= MOST_WORDS:
            return PlainWriting(plains, True).programs(names)[0]
    return None


def is_paper(book, kind, thing):
    """Whether a thing is such a pair as found tells."""
    task = Task(book, kind)
    if not is_pair(thing):
        return False
    if thing[0] == "not":
        return is_against_task(task, thing[1])
    if thing[0] != "made" or not is_plain(book, (), thing[1]):
        return False
    return task.table.number(kind_of(book, (), thing[1])) == task.wanted


def needless(book):
    """The ascending tuple of the names of the tools whose kinds can be made by the book without this tool."""
    need_let(book)
    names = []
    for name, kind in book.tools:
        others = Book(book.lot, tuple([tool for tool in book.tools if tool[0] != name]))
        if _is_made(others, kind):
            names.append(name)
    return tuple(sorted(names))


def is_equal_help(book, other):
    """Whether a thing is a Book of the same lot, and either book can make the kinds of the tools of the other."""
    need_let(book)
    if not isinstance(other, Book):
        return False
    need_let(other)
    return book.lot == other.lot and _is_help(book, other) and _is_help(other, book)


def _is_help(book, other):
    """Whether a book can make the kinds of all tools of another one."""
    return all([_is_made(book, kind) for _, kind in other.tools])


def _is_made(book, kind):
    return found(book, kind)[0] == "made"
