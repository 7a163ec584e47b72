"""A library: tools, definitions and wishes that are edited, and what is told of them."""

from usecounts.errors import Full, NoKind, NoName, NoProgram, NotLet, NothingDone, NotMade, NoWish, Unknown
from usecounts.finding import found
from usecounts.judging import MOST_TOOLS, Book
from usecounts.kinds import is_kind_of_any_size
from usecounts.linking import linked_outcome, linked_program
from usecounts.lots import Lot
from usecounts.names import is_name
from usecounts.reasons import reason
from usecounts.records import lot_text, record
from usecounts.shapes import is_program_of_any_size
from usecounts.shelves import DEFINE, TOOL, WISH, Shelf
from usecounts.texts import kind_text, program_text


class Library:
    """Entries under names, with all edits that can be taken back and done again.

    An edit is a triple: a name, or None for the lot; the elder entry or lot;
    the later one. There is None where there is no entry.
    """

    def __init__(self, lot):
        if not isinstance(lot, Lot):
            raise NotLet()
        self._shelf = Shelf(lot)
        self._done = []
        self._undone = []
        self._records = [record("relot " + lot_text(lot))]
        # Verdicts and outcomes that were told and hold still.
        self._verdicts = {}
        self._outcomes = {}

    def tool(self, name, kind):
        """Let there be a tool of a kind."""
        _need_name(name)
        _need_kind(kind)
        others = [other for other, _ in self._shelf.named_tools() if other != name]
        if len(others) >= MOST_TOOLS:
            raise Full()
        self._edit(name, (TOOL, kind), "tool " + name + " " + kind_text(kind))

    def define(self, name, program):
        """Let there be a definition with a program."""
        _need_name(name)
        if not is_program_of_any_size(program):
            raise NoProgram()
        self._edit(name, (DEFINE, program), "define " + name + " " + program_text(program))

    def wish(self, name, kind):
        """Let there be a wish for a kind."""
        _need_name(name)
        _need_kind(kind)
        self._edit(name, (WISH, kind), "wish " + name + " " + kind_text(kind))

    def drop(self, name):
        """Let there be no entry of this name any more."""
        self._need_entry(name)
        self._edit(name, None, "drop " + name)

    def relot(self, lot):
        """Let there be another lot."""
        if not isinstance(lot, Lot):
            raise NotLet()
        self._edit(None, lot, "relot " + lot_text(lot))

    def _edit(self, name, later, told):
        elder = self._shelf.lot if name is None else self._shelf.entries.get(name)
        self._done.append((name, elder, later))
        self._undone = []
        self._put(name, later)
        self._records.append(record(told))

    def _put(self, name, told):
        """Change what is there, and forget what held only for the elder."""
        is_for_tools = name is None or _is_tool(told) or _is_tool(self._shelf.entries.get(name))
        if name is None:
            self._shelf.relot(told)
        else:
            self._shelf.put(name, told)
        if is_for_tools:
            self._verdicts = {}
            self._outcomes = {}
            return
        self._verdicts.pop(name, None)
        for other in self._shelf.leading_to(name) + [name]:
            self._outcomes.pop(other, None)

    def _need_entry(self, name):
        if not isinstance(name, str) or name not in self._shelf.entries:
            raise Unknown(name)

    def names(self):
        """The ascending list of the names of the entries."""
        return sorted(self._shelf.entries)

    def entry(self, name):
        """The pair of the word "tool", "define" or "wish" and a kind or program."""
        self._need_entry(name)
        return self._shelf.entries[name]

    def kind(self, name):
        """The kind of an entry, or None."""
        self._need_entry(name)
        return self._shelf.kind(name)

    def why(self, name):
        """Why an entry has no kind; None if it has one."""
        self._need_entry(name)
        return reason(self._shelf, name)

    def uses(self, name):
        """The ascending list of the names that an entry uses."""
        _need_name(name)
        return self._shelf.uses(name)

    def users(self, name):
        """The ascending list of the definitions that use a name."""
        _need_name(name)
        return self._shelf.users(name)

    def changed(self):
        """The ascending list of the names whose kind became another one with the last edit, undo or redo."""
        return list(self._shelf.differing)

    def judged(self):
        """The ascending list of the definitions that were judged for it."""
        return list(self._shelf.rejudged)

    def verdict(self, name):
        """What found tells of the kind of a wish, with the lot and all tools."""
        self._need_entry(name)
        word, kind = self._shelf.entries[name]
        if word != WISH:
            raise NoWish()
        if name not in self._verdicts:
            self._verdicts[name] = found(Book(self._shelf.lot, self._shelf.named_tools()), kind)
        return self._verdicts[name]

    def fill(self, name):
        """Define a wish by the program of its verdict."""
        word, program = self.verdict(name)
        if word != "made":
            raise NotMade()
        self.define(name, program)

    def linked(self, name):
        """The program of an entry in which all definitions stand in the places of their names, standard."""
        self._need_entry(name)
        return linked_program(self._shelf, name)

    def outcome(self, name):
        """The outcome of an entry when it is linked."""
        self._need_entry(name)
        if name not in self._outcomes:
            self._outcomes[name] = linked_outcome(self._shelf, name)
        return self._outcomes[name]

    def undo(self):
        """Take back the last edit that is not taken back."""
        if not self._done:
            raise NothingDone()
        edit = self._done.pop()
        self._undone.append(edit)
        self._put(edit[0], edit[1])
        self._records.append(record("undo"))

    def redo(self):
        """Do the last edit again that was taken back."""
        if not self._undone:
            raise NothingDone()
        edit = self._undone.pop()
        self._done.append(edit)
        self._put(edit[0], edit[2])
        self._records.append(record("redo"))

    def depth(self):
        """How many edits can be taken back."""
        return len(self._done)

    def copy(self):
        """A library that goes on apart, with all that can be taken back and done again."""
        other = Library(self._shelf.lot)
        other._shelf = self._shelf.copy()
        other._done = list(self._done)
        other._undone = list(self._undone)
        other._records = list(self._records)
        other._verdicts = dict(self._verdicts)
        other._outcomes = dict(self._outcomes)
        return other

    def journal(self):
        """The records of the lot at first and of all edits, undos and redos."""
        return "".join(self._records)


def _need_name(thing):
    if not is_name(thing):
        raise NoName()


def _need_kind(thing):
    if not is_kind_of_any_size(thing):
        raise NoKind()


def _is_tool(entry):
    return isinstance(entry, tuple) and entry[0] == TOOL
