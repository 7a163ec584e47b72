"""Kinds: letters, and pairs of kinds, each of which turns its left into its right."""

from usecounts.basics import is_integer_within, is_pair
from usecounts.errors import NoKind

LAST_LETTER = 25
MOST_LETTERS = 60
MOST_DEEP = 30


def is_letter(thing):
    """Whether a thing is an integer from 0 to 25."""
    return is_integer_within(0, LAST_LETTER, thing)


def is_kind(thing):
    """Whether a thing is a kind with at most 60 letters, its pairs nested at most 30 deep."""
    letters = 0
    # Each part waits with the number of pairs around it: a call for each pair
    # would be too deep for kinds that built returned.
    waiting = [(thing, 0)]
    while waiting and letters <= MOST_LETTERS:
        part, deep = waiting.pop()
        if is_letter(part):
            letters += 1
        elif is_pair(part) and deep < MOST_DEEP:
            waiting.extend([(part[0], deep + 1), (part[1], deep + 1)])
        else:
            return False
    return letters <= MOST_LETTERS


def is_kind_of_any_size(thing):
    """Whether a thing is a kind, however great."""
    waiting = [thing]
    while waiting:
        part = waiting.pop()
        if is_pair(part):
            waiting.extend([part[0], part[1]])
        elif not is_letter(part):
            return False
    return True


def lefts(kind):
    """The tuple of the lefts of a kind."""
    if not is_kind_of_any_size(kind):
        raise NoKind()
    found = []
    rest = kind
    while is_pair(rest):
        found.append(rest[0])
        rest = rest[1]
    return tuple(found)


def end(kind):
    """The letter at the end of a kind."""
    if not is_kind_of_any_size(kind):
        raise NoKind()
    rest = kind
    while is_pair(rest):
        rest = rest[1]
    return rest


def built(lefts, end):
    """The kind with these lefts and this end."""
    if not isinstance(lefts, tuple) or not is_letter(end):
        raise NoKind()
    if not all([is_kind_of_any_size(left) for left in lefts]):
        raise NoKind()
    kind = end
    for left in reversed(lefts):
        kind = (left, kind)
    return kind
