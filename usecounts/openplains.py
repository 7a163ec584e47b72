"""Plain programs, counted by their names and by the names in them that are still to be taken.

An OPENING is a plain program in which some names are told only by their kinds:
each of them is to be taken by a take further out. A bag tells how many names of
each kind they are: an integer with 8 bits for each of these kinds.
"""

from math import comb

BITS = 8


class OpenPlains:
    """Tables of the plain programs of a task, for 0, 1, 2 .. names, as far as they were grown.

    table: tells the numbers of kinds.
    units: the dict from kinds that can be taken to the bags of one name of them.
    heads: the dict from letters to the triples (word, kind, bag) of the names
    that can be handed so much that this letter comes: the word is a tool's name,
    or None for a name that is still to be taken.
    made: for each kind the list, by numbers of names, of the dicts from bags to
    pairs: how many openings there are, and the least number of words of one.
    handed: the same for rows of openings that are handed to a name of a kind.
    """

    def __init__(self, task):
        self.table = task.table
        self.wanted = task.wanted
        self.lot = task.lot
        self.units = {}
        self.heads = {}
        self.made = {}
        self.handed = {}
        self._goals = []
        self._want(task.wanted)
        for name, number in task.tools:
            self._add_head(name, number, 0)
        while self._goals:
            goal = self._goals.pop()
            lefts = self.table.lefts(goal)
            for left in lefts:
                if left not in self.units:
                    self.units[left] = 1 << (BITS * len(self.units))
                    self._add_head(None, left, self.units[left])
        self._names = 0

    def _want(self, number):
        """Let there be tables for a kind, and for what is left of it behind each take."""
        if number not in self.made:
            self._goals.append(number)
        while number not in self.made:
            self.made[number] = [{}]
            if self.table.is_pair_number(number):
                number = self.table.right(number)

    def _add_head(self, word, number, unit):
        self.heads.setdefault(self.table.end(number), []).append((word, number, unit))
        for left in self.table.lefts(number):
            self._want(left)
        while number not in self.handed:
            self.handed[number] = []
            if self.table.is_pair_number(number):
                number = self.table.right(number)

    def closed(self, names):
        """How many programs of the task there are with so many names, and their least number of words."""
        while self._names < names:
            self._grow()
        return self.made[self.wanted][names].get(0, (0, 0))

    def _grow(self):
        """Tell the tables for one name more."""
        # A pair has a greater number than its right, on which its tables rest.
        handed = sorted(self.handed)
        made = sorted(self.made)
        for number in handed:
            self.handed[number].append(self._tell_handed(number, self._names))
        self._names += 1
        for number in made:
            if self.table.is_pair_number(number):
                self.made[number].append(self._tell_take(number, self._names))
            else:
                self.made[number].append(self._tell_uses(number, self._names))

    def _tell_handed(self, number, names):
        found = {}
        if not self.table.is_pair_number(number):
            if names == 0:
                found[0] = (1, 0)
            return found
        first = self.made[self.table.left(number)]
        others = self.handed[self.table.right(number)]
        for many in range(1, names + 1):
            behind = others[names - many]
            for bag, told in first[many].items():
                for other, more in behind.items():
                    # One word is the use by which the first is handed.
                    _add(found, bag + other, told[0] * more[0], 1 + told[1] + more[1])
        return found

    def _tell_uses(self, letter, names):
        found = {}
        for _, number, unit in self.heads.get(letter, []):
            for bag, told in self.handed[number][names - 1].items():
                _add(found, bag + unit, told[0], 1 + told[1])
        return found

    def _tell_take(self, number, names):
        found = {}
        unit = self.units[self.table.left(number)]
        for bag, told in self.made[self.table.right(number)][names].items():
            stands = _number_in(bag, unit)
            for many in range(stands + 1):
                if self.lot.has(many):
                    _add(found, bag - many * unit, told[0] * comb(stands, many), 1 + told[1])
        return found


def _add(found, bag, many, words):
    if bag in found:
        elder = found[bag]
        found[bag] = (elder[0] + many, min(elder[1], words))
    else:
        found[bag] = (many, words)


def _number_in(bag, unit):
    """How many names of the kind with this unit are in a bag."""
    return bag // unit % (1 << BITS)
