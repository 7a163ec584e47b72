"""The texts of kinds and programs."""

from usecounts.basics import is_pair
from usecounts.names import NAME_LETTERS
from usecounts.shapes import USE, ends_of_parts, is_take


def kind_text(kind):
    """The text of a kind, such as (a > b) > c."""
    found = []
    # Parts, and signs between them, that are still to come, the next one last.
    waiting = [kind]
    while waiting:
        part = waiting.pop()
        if isinstance(part, str):
            found.append(part)
        elif not is_pair(part):
            found.append(NAME_LETTERS[part])
        elif is_pair(part[0]):
            waiting.extend([part[1], ") > ", part[0], "("])
        else:
            waiting.extend([part[1], " > ", part[0]])
    return "".join(found)


def program_text(program):
    """The text of a program, such as [x:a] (f x)."""
    ends = ends_of_parts(program)
    found = []
    # The places of parts, and signs between them, that are still to come, the next one last.
    waiting = [0]
    while waiting:
        part = waiting.pop()
        if isinstance(part, str):
            found.append(part)
        elif program[part] == USE:
            waiting.extend([")", ends[part + 1], " ", part + 1, "("])
        elif is_take(program[part]):
            found.append("[" + program[part][0] + ":" + kind_text(program[part][1]) + "] ")
            waiting.append(part + 1)
        else:
            found.append(program[part])
    return "".join(found)
