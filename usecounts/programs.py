"""Programs: names, uses and takes, written as tuples of words."""

from usecounts.basics import is_integer_within
from usecounts.errors import NoPlace
from usecounts.kinds import is_kind
from usecounts.loose import is_same_but_for_taken_names, loosened
from usecounts.shapes import Shape, end_of_part, is_made_of_words, is_program_of_any_size, need_program

MOST_WORDS = 400


def is_program(thing):
    """Whether a thing is a program with at most 400 words, its kinds as is_kind lets them."""
    if not isinstance(thing, tuple) or len(thing) > MOST_WORDS:
        return False
    return is_made_of_words(thing, is_kind)


def part(program, place):
    """The program that begins with the word at a place."""
    if not is_integer_within(0, len(program) - 1, place):
        raise NoPlace()
    return program[place:end_of_part(program, place)]


def open_names(program):
    """The ascending tuple of the names that are open somewhere."""
    shape = Shape(program)
    return tuple(sorted(set([program[place] for place in shape.open_places()])))


def standard(program):
    """The program with its taken names told anew as a, b, .. in the order of the takes."""
    return loosened(program).told()


def is_same(program, thing):
    """Whether a thing is a program that is equal to this one but for taken names."""
    return is_program_of_any_size(thing) and is_same_but_for_taken_names(program, thing)


def counts(program):
    """The dict from open names and from places of takes to how often these names stand."""
    need_program(program)
    return Shape(program).counts()
