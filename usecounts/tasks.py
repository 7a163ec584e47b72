"""Tasks: a book and a kind that is to be made, with the kinds that stand in them."""

from usecounts.errors import NoKind, NotLet
from usecounts.kinds import is_kind_of_any_size
from usecounts.kindtable import KindTable
from usecounts.lots import Lot
from usecounts.texts import kind_text


class Task:
    """A book and a kind: NotLet, NoKind.

    table: tells the numbers of kinds.
    parts: the list of the numbers of all parts, ascending by their texts.
    things: the list of those that stand as a left, in the same order.
    """

    def __init__(self, book, kind):
        if not isinstance(book.lot, Lot) or (book.lot.word == "once" and len(book.tools) > 0):
            raise NotLet()
        if not is_kind_of_any_size(kind):
            raise NoKind()
        self.table = KindTable()
        numbers = self._all_parts([kind] + [told for _, told in book.tools])
        # No two parts have the same text, so texts alone are held against each other.
        rows = sorted([(kind_text(self.table.kind(number)), number) for number in numbers])
        self.parts = [number for _, number in rows]
        lefts = {self.table.left(number): True for number in numbers if self.table.is_pair_number(number)}
        self.things = [number for number in self.parts if number in lefts]

    def _all_parts(self, kinds):
        """The list of the numbers of the kinds and of all that stand in them, each once."""
        found = {}
        waiting = [self.table.number(kind) for kind in kinds]
        while waiting:
            number = waiting.pop()
            if number not in found:
                found[number] = True
                if self.table.is_pair_number(number):
                    waiting.extend([self.table.left(number), self.table.right(number)])
        return list(found)
