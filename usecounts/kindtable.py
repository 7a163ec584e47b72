"""Kinds as numbers: great kinds are too deep to be compared, or to be keys, as tuples."""

from usecounts.basics import is_pair
from usecounts.kinds import LAST_LETTER

PAIR = -1
FIRST_PAIR = LAST_LETTER + 1


def marks(kind):
    """The kind as a flat tuple: PAIR ahead of the marks of a left and a right, or a letter."""
    found = []
    waiting = [kind]
    while waiting:
        part = waiting.pop()
        if is_pair(part):
            found.append(PAIR)
            waiting.extend([part[1], part[0]])
        else:
            found.append(part)
    return tuple(found)


class KindTable:
    """Numbers for kinds, the same for equal ones.

    A letter is its own number. A pair has a greater one than its left and its right.
    """

    def __init__(self):
        self._numbers = {}
        self._pairs = []
        self._kinds = []

    def number(self, kind):
        """The number of a kind, a new one if it is new."""
        found = []
        for mark in reversed(marks(kind)):
            if mark == PAIR:
                left = found.pop()
                right = found.pop()
                found.append(self.pair(left, right))
            else:
                found.append(mark)
        return found[0]

    def pair(self, left, right):
        """The number of the pair of the kinds with these numbers."""
        if (left, right) not in self._numbers:
            self._numbers[(left, right)] = FIRST_PAIR + len(self._pairs)
            self._pairs.append((left, right))
            self._kinds.append((self.kind(left), self.kind(right)))
        return self._numbers[(left, right)]

    def kind(self, number):
        """The kind with this number."""
        if number < FIRST_PAIR:
            return number
        return self._kinds[number - FIRST_PAIR]

    def is_pair_number(self, number):
        """Whether the kind with this number is a pair."""
        return number >= FIRST_PAIR

    def left(self, number):
        """The number of the left of the pair with this number."""
        return self._pairs[number - FIRST_PAIR][0]

    def right(self, number):
        """The number of the right of the pair with this number."""
        return self._pairs[number - FIRST_PAIR][1]

    def pair_numbers(self):
        """The ascending list of the numbers of all pairs so far."""
        return list(range(FIRST_PAIR, FIRST_PAIR + len(self._pairs)))

    def end(self, number):
        """The letter at the end of the kind with this number."""
        while self.is_pair_number(number):
            number = self.right(number)
        return number

    def lefts(self, number):
        """The list of the numbers of all lefts of the kind with this number."""
        found = []
        while self.is_pair_number(number):
            found.append(self.left(number))
            number = self.right(number)
        return found
