"""A program as it is judged by a lot and by the names that it may use."""

from usecounts.kindtable import KindTable
from usecounts.shapes import USE, Shape, is_take


class Judged:
    """What a lot and kinds of names tell of a program.

    shape: where its parts end and to which takes its names belong.
    table: tells the numbers of kinds.
    named: the dict from tools and handed names to the numbers of their kinds.
    kinds: at each place the number of the kind of the part there, or None.
    fault: the first fault, or None for a right program.
    """

    def __init__(self, lot, tools, handed, program):
        self.shape = Shape(program)
        self.table = KindTable()
        self.named = {name: self.table.number(kind) for name, kind in tools + handed}
        self.kinds = [None] * len(program)
        self.fault = self._first_fault(lot, handed)

    def kind(self):
        """The kind of a right program."""
        return self.table.kind(self.kinds[0])

    def _first_fault(self, lot, handed):
        for place in self.shape.open_places():
            if self.shape.words[place] not in self.named:
                return ("open", place)
        misfits = self._tell_kinds()
        if misfits:
            return ("kind", misfits[-1])
        counts = self.shape.counts()
        for name, _ in handed:
            if not lot.has(counts.get(name, 0)):
                return ("handed", name, counts.get(name, 0))
        for place in self.shape.takes():
            if not lot.has(counts[place]):
                return ("count", place, counts[place])
        return None

    def _tell_kinds(self):
        """Tell the kinds of all parts that have one; the descending places of uses that do not fit."""
        words = self.shape.words
        taken = {place: self.table.number(words[place][1]) for place in self.shape.takes()}
        misfits = []
        for place in reversed(range(len(words))):
            if words[place] == USE:
                if not self._tell_use(place):
                    misfits.append(place)
            elif is_take(words[place]):
                body = self.kinds[place + 1]
                if body is not None:
                    self.kinds[place] = self.table.pair(taken[place], body)
            elif self.shape.takers[place] is None:
                self.kinds[place] = self.named[words[place]]
            else:
                self.kinds[place] = taken[self.shape.takers[place]]
        return misfits

    def _tell_use(self, place):
        """Tell the kind of a use; False if its parts have kinds that do not go together."""
        user = self.kinds[place + 1]
        handed = self.kinds[self.shape.ends[place + 1]]
        if user is None or handed is None:
            return True
        if not self.table.is_pair_number(user) or self.table.left(user) != handed:
            return False
        self.kinds[place] = self.table.right(user)
        return True
