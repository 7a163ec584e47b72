"""Houses whose stands are bags that are counted."""

from usecounts.basics import is_integer_within
from usecounts.countedbags import counted_rows
from usecounts.errors import NoNumber, TooMany
from usecounts.houses import House
from usecounts.joinings import MOST_STANDS
from usecounts.oncebags import once_rows
from usecounts.tasks import PartedTask

MOST_SIZE = 6


def bag_house(book, kind, size):
    """The house whose stands are the counted bags of a task."""
    task = PartedTask(book, kind)
    if not is_integer_within(1, MOST_SIZE, size):
        raise NoNumber()
    rows = bag_rows(task, size, MOST_STANDS)
    if rows is None:
        raise TooMany(MOST_STANDS)
    return House(task.lot, rows[0], rows[1])


def bag_rows(task, size, most):
    """The joining and the letters of the counted bags, of any size; None if there are more than the most."""
    if task.lot.word == "once":
        return once_rows(task, most)
    return counted_rows(task, size, most)
