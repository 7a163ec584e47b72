"""Steps, which put what is handed in the place of a taken name, and plain programs."""

from usecounts.errors import NoStep, TooMany
from usecounts.expanding import Expanding
from usecounts.judging import judged, need_handed, right
from usecounts.loose import Loose, is_same_but_for_taken_names, loosened
from usecounts.shapes import Shape, is_program_of_any_size, is_step, need_program

MOST_LED = 5000


def steps(program):
    """The ascending tuple of all places of steps."""
    need_program(program)
    return tuple([place for place in range(len(program)) if is_step(program, place)])


def _need_step(program, place):
    need_program(program)
    if not is_step(program, place):
        raise NoStep()


def stepped(program, place):
    """The program behind the step at a place, standard."""
    _need_step(program, place)
    loose = loosened(program)
    _lead(loose, place)
    return loose.told()


def _lead(loose, place):
    """Do a step, unless there are too many words behind it."""
    if loose.size_behind(place) > MOST_LED:
        raise TooMany(MOST_LED)
    loose.lead(place)


def counts_ahead(program, place):
    """The dict from the open names of a program to how often they stand behind a step."""
    _need_step(program, place)
    shape = Shape(program)
    more = shape.takers.count(place + 1) - 1
    found = {}
    for at in shape.open_places():
        stands = 1
        if shape.ends[place + 1] <= at < shape.ends[place]:
            stands += more
        found[program[at]] = found.get(program[at], 0) + stands
    return found


def rest(book, handed, program):
    """The rest to which steps lead a right program, standard."""
    return _rest(right(book, handed, program)).told()


def _rest(found):
    """The rest, loose, of a right program."""
    loose = Loose(found.shape, found.table)
    if len(loose.words) > MOST_LED:
        raise TooMany(MOST_LED)
    place = 0
    while place < len(loose.words):
        if is_step(loose.words, place):
            _lead(loose, place)
            # Ahead of the step only the use that stands right there can have become one.
            place = max(place - 1, 0)
        else:
            place += 1
    return loose


def is_row(program, other, thing):
    """Whether a thing is a tuple of places of steps from the program to the other one."""
    need_program(program)
    need_program(other)
    if not isinstance(thing, tuple) or len(program) > MOST_LED:
        return False
    loose = loosened(program)
    for place in thing:
        if not is_step(loose.words, place) or loose.size_behind(place) > MOST_LED:
            return False
        loose.lead(place)
    return is_same_but_for_taken_names(loose.told(), other)


def plain(book, handed, program):
    """The plain program to which a right one comes, standard."""
    found = right(book, handed, program)
    loose = _rest(found)
    expanding = Expanding(loose, found.named)
    if not expanding.write(found.kinds[0], MOST_LED):
        raise TooMany(MOST_LED)
    loose.words = expanding.words
    return loose.told()


def is_plain(book, handed, thing):
    """Whether a thing is a right plain program."""
    need_handed(book, handed)
    if not is_program_of_any_size(thing) or steps(thing):
        return False
    found = judged(book, handed, thing)
    if found.fault is not None:
        return False
    # What is put into a program without steps makes it longer, unless it is plain.
    return Expanding(Loose(found.shape, found.table), found.named).write(found.kinds[0], len(thing))
