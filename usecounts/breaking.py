"""Raw lots with which a step may break a program that was right."""

from usecounts.judging import Book, is_handed, judged
from usecounts.kinds import built
from usecounts.lots import ENOUGH, told_lot
from usecounts.shapes import USE, is_program_of_any_size, is_step


def breaking(raw):
    """What is handed, a program, and the place of a step behind which it is not right; None if no step breaks any."""
    if told_lot(raw) is not None:
        return None
    taken, inside, outside = _breaking_numbers(raw)
    # f takes x, which stands so often in what h is handed, beside y as often as
    # outside; it is handed y's as often as inside.
    handed = (("g", built((0,) * inside, 0)), ("h", built((0,) * (taken + outside), 0)), ("y", 0))
    user = (("x", 0),) + _handed_all("h", ("x",) * taken + ("y",) * outside)
    return (handed, (USE,) + user + _handed_all("g", ("y",) * inside), 0)


def _handed_all(name, others):
    """The program in which a name is handed these names."""
    return (USE,) * len(others) + (name,) + others


def _breaking_numbers(raw):
    """How often a taken name stands, and a handed one inside and outside of what is put in its place."""
    # The least ones: for each raw lot that breaks a program they are far below ENOUGH.
    for size in range(ENOUGH):
        for taken in range(size):
            stands = size - taken
            if raw.has(taken) and raw.has(stands):
                for inside in range(1, stands + 1):
                    if not raw.has(stands + inside * (taken - 1)):
                        return (taken, inside, stands - inside)
    return None


def is_breaking(raw, thing):
    """Whether a thing is such a triple as breaking returns for a raw lot."""
    if not isinstance(thing, tuple) or len(thing) != 3:
        return False
    handed, program, place = thing
    book = Book(raw, ())
    if not is_handed(book, handed) or not is_program_of_any_size(program) or not is_step(program, place):
        return False
    found = judged(book, handed, program)
    return found.fault is None and _breaks(raw, handed, found.shape, place)


def _breaks(raw, handed, shape, place):
    """Whether some name, of those that are handed and those of takes around, does not stand as told behind a step.

    All others stand as often as ahead of it. The step is not done: there may be too many words behind it.
    """
    counts = shape.counts()
    more = counts[place + 1] - 1
    behind = {name: counts.get(name, 0) for name, _ in handed}
    for at in range(shape.ends[place + 1], shape.ends[place]):
        name = shape.words[at]
        taker = shape.takers[at]
        if shape.is_open(at):
            behind[name] += more
        elif taker is not None and taker < place:
            behind[taker] = behind.get(taker, counts[taker]) + more
    return any([not raw.has(behind[key]) for key in behind])
