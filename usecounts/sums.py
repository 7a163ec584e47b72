"""Sums of numbers, each of them as often as one likes."""

from math import gcd, lcm


class Sums:
    """All sums of some numbers from 1 on, of which there is at least one.

    makers: those of the numbers, ascending, that are no sum of lesser ones.
    step: the greatest number that divides all sums.
    far: from here on all that step divides is a sum.
    """

    def __init__(self, numbers):
        ascending = sorted(numbers)
        # At k stands the least sum that leaves k behind a division by the
        # least number, or None: greater ones come of it by adding that number.
        self._least = [0] + [None] * (ascending[0] - 1)
        self.step = ascending[0]
        kept = [ascending[0]]
        for number in ascending:
            if not self.has(number):
                kept.append(number)
                self.step = gcd(self.step, number)
                self._widen(number)
        self.makers = tuple(kept)
        self.far = max([least for least in self._least if least is not None])

    def has(self, number):
        """Whether an integer is a sum; 0 is the sum of nothing."""
        least = self._least[number % len(self._least)]
        return least is not None and least <= number

    def _widen(self, maker):
        """Let the sums be those with one maker more."""
        rings = gcd(len(self._least), maker)
        for start in range(rings):
            self._go_round(start, maker, len(self._least) // rings)

    def _go_round(self, start, maker, length):
        """Add the maker again and again to the least sums in one ring of what is left."""
        at = start
        least = self._least[at]
        # Twice, since the least sum of the ring may stand anywhere in it.
        for _ in range(2 * length):
            at = (at + maker) % len(self._least)
            if least is not None:
                least = least + maker
            least = _lesser(least, self._least[at])
            self._least[at] = least


def _lesser(total, other):
    """The lesser of two sums, each of which may be None for no sum."""
    if total is None or (other is not None and other < total):
        return other
    return total


def shared_sums(sums, others):
    """The Sums that are just those of both."""
    step = lcm(sums.step, others.step)
    far = max(sums.far, others.far)
    # From far on both have all that step divides. So the least shared number is
    # at most far + step, and a greater one than this and far together is the
    # least one and another shared number: it is no maker.
    bounded = range(step, 2 * far + step + 1, step)
    return Sums([number for number in bounded if sums.has(number) and others.has(number)])
