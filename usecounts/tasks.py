"""Tasks: a book and a kind that is to be made, with the kinds that stand in them."""

from usecounts.errors import NoKind, NotLet
from usecounts.kinds import is_kind_of_any_size
from usecounts.kindtable import KindTable
from usecounts.lots import Lot
from usecounts.texts import kind_text


def need_let(book):
    """Raise NotLet for a book that has no Lot, or has tools with the lot "once"."""
    if not isinstance(book.lot, Lot) or (book.lot.word == "once" and len(book.tools) > 0):
        raise NotLet()


class Task:
    """A book and a kind: NotLet, NoKind.

    lot: that of the book.
    table: tells the numbers of kinds.
    wanted: the number of the kind.
    tools: the list of pairs of the tools' names and the numbers of their kinds.
    """

    def __init__(self, book, kind):
        need_let(book)
        if not is_kind_of_any_size(kind):
            raise NoKind()
        self.lot = book.lot
        self.table = KindTable()
        self.wanted = self.table.number(kind)
        self.tools = [(name, self.table.number(told)) for name, told in book.tools]


class PartedTask(Task):
    """A task with its parts.

    parts: the list of the numbers of all parts, ascending by their texts.
    things: the list of those that stand as a left, in the same order.
    """

    def __init__(self, book, kind):
        Task.__init__(self, book, kind)
        numbers = self._all_parts([self.wanted] + [number for _, number in self.tools])
        # No two parts have the same text, so texts alone are held against each other.
        rows = sorted([(kind_text(self.table.kind(number)), number) for number in numbers])
        self.parts = [number for _, number in rows]
        lefts = {self.table.left(number): True for number in numbers if self.table.is_pair_number(number)}
        self.things = [number for number in self.parts if number in lefts]

    def _all_parts(self, numbers):
        """The list of the numbers of these kinds and of all that stand in them, each once."""
        found = {}
        waiting = list(numbers)
        while waiting:
            number = waiting.pop()
            if number not in found:
                found[number] = True
                if self.table.is_pair_number(number):
                    waiting.extend([self.table.left(number), self.table.right(number)])
        return list(found)
