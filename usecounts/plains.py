"""How many plain programs of a kind there are, and which."""

from usecounts.basics import is_integer_within
from usecounts.errors import NoNumber, TooMany
from usecounts.openplains import OpenPlains
from usecounts.plainwriting import PlainWriting
from usecounts.tasks import Task
from usecounts.texts import program_text

MOST_NAMES = 8
MOST_PROGRAMS = 500


def many_plain(book, kind, names):
    """How many right plain programs of a kind there are in which names stand at just so many places."""
    return _counted_plains(book, kind, names).closed(names)[0]


def plain_programs(book, kind, names):
    """The list of these programs, standard, ascending by their texts."""
    plains = _counted_plains(book, kind, names)
    if plains.closed(names)[0] > MOST_PROGRAMS:
        raise TooMany(MOST_PROGRAMS)
    told = {program_text(program): program for program in PlainWriting(plains, False).programs(names)}
    return [told[text] for text in sorted(told)]


def _counted_plains(book, kind, names):
    task = Task(book, kind)
    if not is_integer_within(0, MOST_NAMES, names):
        raise NoNumber()
    return OpenPlains(task)
