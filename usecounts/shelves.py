"""What a library keeps at a time: a lot, entries, and the kinds that they have."""

from usecounts.judged import Judged
from usecounts.kindtable import KindTable
from usecounts.programs import open_names

TOOL = "tool"
DEFINE = "define"
WISH = "wish"


class Shelf:
    """A lot and entries, pairs of a word and what it tells, by their names.

    lot: the lot.
    entries: the dict from names to entries.
    differing: the ascending list of the names whose kind became another one with the last change.
    rejudged: the ascending list of the definitions that were judged for it.
    """

    def __init__(self, lot):
        self.lot = lot
        self.entries = {}
        self.differing = []
        self.rejudged = []
        self._table = KindTable()
        # The numbers of the kinds, None where there is none, and the uses of definitions.
        self._kinds = {}
        self._uses = {}

    def copy(self):
        """A shelf that is changed apart."""
        other = Shelf(self.lot)
        other.entries = dict(self.entries)
        other.differing = list(self.differing)
        other.rejudged = list(self.rejudged)
        # Numbers of kinds never change, so both may ask one table.
        other._table = self._table
        other._kinds = dict(self._kinds)
        other._uses = dict(self._uses)
        return other

    def put(self, name, entry):
        """Let there be an entry, or none if it is None, under a name."""
        self.entries.pop(name, None)
        self._uses.pop(name, None)
        if entry is not None:
            self.entries[name] = entry
            if entry[0] == DEFINE:
                self._uses[name] = open_names(entry[1])
        self._settle(name, False)

    def relot(self, lot):
        """Let there be another lot."""
        is_another = lot != self.lot
        self.lot = lot
        self._settle(None, is_another)

    def _settle(self, put, is_another_lot):
        """Tell the kinds behind a change, those anew that it reaches."""
        elder = self._kinds
        self._kinds = {}
        for name in self.order():
            is_anew = is_another_lot or name == put
            self._kinds[name] = self._told_kind(name, elder, is_anew)
        for name in self.entries:
            # Those that are led to a ring.
            if name not in self._kinds:
                self._kinds[name] = None
        names = sorted(set(list(elder) + list(self._kinds)))
        self.differing = [name for name in names if elder.get(name) != self._kinds.get(name)]
        differing = {name: True for name in self.differing}
        self.rejudged = []
        for name in sorted(self._uses):
            if is_another_lot or name == put or any([use in differing for use in self._uses[name]]):
                self.rejudged.append(name)

    def order(self):
        """The list of the entries that are led to no ring, each behind those that it uses."""
        lacking = {}
        users = {name: [] for name in self.entries}
        ready = []
        for name in self.entries:
            there = [use for use in self._uses.get(name, ()) if use in self.entries]
            lacking[name] = len(there)
            for use in there:
                users[use].append(name)
            if not there:
                ready.append(name)
        found = []
        while ready:
            name = ready.pop()
            found.append(name)
            for user in users[name]:
                lacking[user] -= 1
                if lacking[user] == 0:
                    ready.append(user)
        return found

    def _told_kind(self, name, elder, is_anew):
        """The number of the kind of an entry, if those of all that it uses are told."""
        word, told = self.entries[name]
        if word != DEFINE:
            return self._table.number(told)
        uses = self._uses[name]
        if not self.is_ready(name):
            return None
        # Neither the definition nor what judges it is another one.
        if not is_anew and all([elder.get(use) == self._kinds[use] for use in uses]):
            return elder[name]
        found = self.judged(name)
        if found.fault is not None:
            return None
        return self._table.number(found.kind())

    def is_ready(self, name):
        """Whether all that a definition uses is there and has a kind."""
        return all([self._kinds.get(use) is not None for use in self._uses[name]])

    def judged(self, name):
        """A definition that is ready, as the lot and what it uses judge it."""
        tools = tuple([(use, self.kind(use)) for use in self._uses[name]])
        return Judged(self.lot, tools, (), self.entries[name][1])

    def kind(self, name):
        """The kind of an entry, or None."""
        number = self._kinds[name]
        if number is None:
            return None
        return self._table.kind(number)

    def named_tools(self):
        """The tuple of the tools with their kinds, ascending by their names."""
        names = [name for name in sorted(self.entries) if self.entries[name][0] == TOOL]
        return tuple([(name, self.entries[name][1]) for name in names])

    def is_definition(self, name):
        """Whether there is a definition of this name."""
        return name in self._uses

    def uses(self, name):
        """The ascending list of the names that an entry uses, if there is one."""
        return list(self._uses.get(name, ()))

    def users(self, name):
        """The ascending list of the definitions that use a name."""
        return [user for user in sorted(self._uses) if name in self._uses[user]]

    def led_to(self, name):
        """The ascending list of the names to which an entry is led along uses."""
        found = {}
        waiting = self.uses(name)
        while waiting:
            use = waiting.pop()
            if use not in found:
                found[use] = True
                waiting.extend(self.uses(use))
        return sorted(found)

    def leading_to(self, name):
        """The ascending list of the definitions that are led to a name along uses."""
        found = {}
        waiting = self.users(name)
        while waiting:
            user = waiting.pop()
            if user not in found:
                found[user] = True
                waiting.extend(self.users(user))
        return sorted(found)
