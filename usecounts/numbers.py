"""Programs that hand a name a told number of times, and what parts lots by them."""

from usecounts.basics import is_integer_within
from usecounts.errors import NoNumber
from usecounts.kinds import built
from usecounts.shapes import USE

GREATEST_COUNTER = 20


def counter(n):
    """The program that takes f, then x, and hands x to f so often."""
    if not is_integer_within(0, GREATEST_COUNTER, n):
        raise NoNumber()
    return (("a", built((0,) * n, 1)), ("b", 0)) + (USE,) * n + ("a",) + ("b",) * n


def parting(lot, other):
    """The least number that the lot holds and the other does not, or None."""
    numbers = []
    if lot.word == "loan":
        numbers = [0]
    if lot.word == "free":
        numbers = [0, 2]
    if lot.word == "more":
        # If all makers are sums of the other lot's makers, then all of their sums are.
        numbers = [maker + 1 for maker in lot.makers]
    for number in numbers:
        if not other.has(number):
            return number
    return None
