"""Lots: which numbers tell how often a taken name may stand."""

from usecounts.basics import is_flags_within, is_integer_within
from usecounts.errors import BadLot, NoNumber
from usecounts.sums import Sums, shared_sums

WORDS = ("once", "loan", "free", "more")
MOST_MAKERS = 4
GREATEST_MAKER = 12
GREATEST_NUMBER = 10000
MOST_HEADS = 8
MOST_ROUNDS = 6
# Raw lots that hold the same numbers below this, 8 heads and 60, hold the same
# for ever, since 60 is a multiple of each length of rounds.
ENOUGH = 68


class Lot:
    """The numbers that a word, and for "more" the makers, tell."""

    def __init__(self, word, makers):
        if not isinstance(word, str) or word not in WORDS:
            raise BadLot("word")
        if not _is_makers(word, makers):
            raise BadLot("makers")
        self.word = word
        self.makers = ()
        self._sums = None
        if word == "more":
            self._take(Sums(makers))

    def _take(self, sums):
        self._sums = sums
        self.makers = sums.makers

    def __eq__(self, other):
        return isinstance(other, Lot) and self.word == other.word and self.makers == other.makers

    def has(self, number):
        """Whether the lot holds a number, however great."""
        if self.word == "free":
            return True
        if self.word == "more":
            return self._sums.has(number - 1)
        if self.word == "loan":
            return number <= 1
        return number == 1


class RawLot:
    """The numbers that are told by flags: heads at first, then rounds again and again."""

    def __init__(self, heads, rounds):
        if not is_flags_within(0, MOST_HEADS, heads):
            raise BadLot("heads")
        if not is_flags_within(1, MOST_ROUNDS, rounds):
            raise BadLot("rounds")
        self.heads = heads
        self.rounds = rounds
        if not self.has(1):
            raise BadLot("one")
        self._told = tuple([self.has(number) for number in range(ENOUGH)])

    def __eq__(self, other):
        return isinstance(other, RawLot) and self._told == other._told

    def has(self, number):
        """Whether the raw lot holds a number, however great."""
        if number < len(self.heads):
            return self.heads[number]
        return self.rounds[(number - len(self.heads)) % len(self.rounds)]


def _is_makers(word, thing):
    """Whether a thing may be passed as the makers beside this word."""
    if not isinstance(thing, tuple):
        return False
    if word != "more":
        return len(thing) == 0
    if not 1 <= len(thing) <= MOST_MAKERS:
        return False
    return all([is_integer_within(1, GREATEST_MAKER, maker) for maker in thing])


def _more(sums):
    """The lot of 1 and these sums, with makers that a call of Lot may not let."""
    lot = Lot("more", (1,))
    lot._take(sums)
    return lot


def lot_of_makers(makers):
    """The lot "more" with these makers, of which there may be more and greater ones than a call of Lot lets."""
    return _more(Sums(makers))


def holds(lot, number):
    """Whether the lot holds a number to 10000."""
    if not is_integer_within(0, GREATEST_NUMBER, number):
        raise NoNumber()
    return lot.has(number)


def missing(lot):
    """The ascending numbers from 1 on that the lot does not hold, or None if they have no end."""
    if lot.word == "free":
        return ()
    if lot.word != "more" or lot._sums.step > 1:
        return None
    sums = lot._sums
    return tuple([number + 1 for number in range(sums.far) if not sums.has(number)])


def is_within(lot, thing):
    """Whether a thing is a Lot that holds all that the lot holds."""
    return isinstance(thing, Lot) and around(lot, thing) == thing


def common(lot, other):
    """The lot that holds just what both hold."""
    if lot.word == "free" or lot == other:
        return other
    if other.word == "free":
        return lot
    if lot.word == "more" and other.word == "more":
        return _more(shared_sums(lot._sums, other._sums))
    return Lot("once", ())


def around(lot, other):
    """The least lot that holds what either holds."""
    if lot.word == "once" or lot == other:
        return other
    if other.word == "once":
        return lot
    if lot.word == "more" and other.word == "more":
        return _more(Sums(lot.makers + other.makers))
    return Lot("free", ())


def told_lot(raw):
    """The lot that holds the same numbers as the raw lot, or None."""
    lots = [Lot("once", ()), Lot("loan", ()), Lot("free", ())]
    # Behind the heads one round is like the other: each maker, and each sum of
    # makers that is not held, if there is one, shows far below ENOUGH.
    makers = [number - 1 for number in range(2, ENOUGH) if raw.has(number)]
    if makers:
        lots.append(_more(Sums(makers)))
    for lot in lots:
        if all([lot.has(number) == raw.has(number) for number in range(ENOUGH)]):
            return lot
    return None
