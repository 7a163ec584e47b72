"""Bags: how many names of each thing a program is handed to make a part."""

from usecounts.basics import is_integer, is_pair
from usecounts.errors import NoBag, NoPart
from usecounts.judging import is_handed, judged
from usecounts.kinds import is_kind_of_any_size
from usecounts.shapes import is_program_of_any_size
from usecounts.tasks import PartedTask


def parts(book, kind):
    """The list of all kinds that stand in the kind or in those of the tools, ascending by their texts."""
    task = PartedTask(book, kind)
    return [task.table.kind(number) for number in task.parts]


def things(book, kind):
    """The list of the parts that stand as a left."""
    task = PartedTask(book, kind)
    return [task.table.kind(number) for number in task.things]


def is_made_by(book, kind, bag, part, thing):
    """Whether a thing is a pair (handed, program) that shows that the bag makes the part."""
    task = PartedTask(book, kind)
    if not _is_bag(task, bag):
        raise NoBag()
    if not is_kind_of_any_size(part) or task.table.number(part) not in task.parts:
        raise NoPart()
    if not is_pair(thing) or not is_handed(book, thing[0]) or not is_program_of_any_size(thing[1]):
        return False
    found = judged(book, thing[0], thing[1])
    if found.fault is not None or task.table.number(found.kind()) != task.table.number(part):
        return False
    return _is_handed_as_told(task, bag, thing[0])


def _is_bag(task, thing):
    """Whether a thing is a tuple with a number for each thing of a task."""
    if not isinstance(thing, tuple) or len(thing) != len(task.things):
        return False
    return all([is_integer(item) and item >= 0 for item in thing])


def _is_handed_as_told(task, bag, handed):
    """Whether just as many names of each thing are handed as the bag tells, and no others."""
    kinds = [task.table.number(kind) for _, kind in handed]
    if len(kinds) != sum(bag):
        return False
    return all([kinds.count(number) == many for number, many in zip(task.things, bag)])
