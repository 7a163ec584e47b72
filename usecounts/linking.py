"""Programs in which definitions stand in the places of their names."""

from usecounts.errors import NotFlat, NotWhole, TooMany
from usecounts.judging import Book
from usecounts.kindtable import KindTable
from usecounts.loose import Loose
from usecounts.machine import is_flat, outcome
from usecounts.programs import counts
from usecounts.shapes import Shape
from usecounts.shelves import WISH
from usecounts.stepping import MOST_LED


def linked_program(shelf, name):
    """The program of an entry in which no definitions are used any more, standard: NotWhole, TooMany."""
    if shelf.kind(name) is None:
        raise NotWhole()
    if not shelf.is_definition(name):
        return (name,)
    definitions = _definitions(shelf, name)
    _need_few_words(shelf, definitions)
    table = KindTable()
    words = {}
    for other in definitions:
        loose = Loose(Shape(shelf.entries[other][1]), table)
        loose.put(words)
        words[other] = loose.words
    return loose.told()


def _definitions(shelf, name):
    """The list of a definition and those to which it is led, itself last, each behind those that it uses."""
    led_to = {other: True for other in shelf.led_to(name)}
    return [other for other in shelf.order() if other in led_to and shelf.is_definition(other)] + [name]


def _need_few_words(shelf, definitions):
    """Raise TooMany if there are too many words in the last of the definitions when it is linked."""
    many = {}
    size = 0
    for other in definitions:
        program = shelf.entries[other][1]
        stands = counts(program)
        size = len(program)
        for use in shelf.uses(other):
            size += stands[use] * (many.get(use, 1) - 1)
        many[other] = size
    # All others are parts of it, so none of them has more words.
    if size > MOST_LED:
        raise TooMany(MOST_LED)


def linked_outcome(shelf, name):
    """The outcome of an entry when it is linked: NotWhole, NotFlat, TooMany."""
    if shelf.kind(name) is None or _is_led_to_wish(shelf, name):
        raise NotWhole()
    tools = shelf.named_tools()
    if not is_flat(tools, shelf.kind(name)):
        raise NotFlat()
    return outcome(Book(shelf.lot, tools), linked_program(shelf, name))


def _is_led_to_wish(shelf, name):
    """Whether an entry is led to a wish, or is one."""
    names = shelf.led_to(name) + [name]
    return any([shelf.entries[other][0] == WISH for other in names])
