"""Bags counted up to a size, and the parts that they have, for all lots but "once"."""

from math import gcd

from usecounts.joinings import falls, stands_of


def counted_rows(task, size, most):
    """The joining and the letters of the counted bags of a task, or None if there are more than the most."""
    rows = _counted_bags(task, size, most)
    if rows is None:
        return None
    joining = _joined_bags(task.lot, size, rows)
    units = {}
    for at, thing in enumerate(task.things):
        units[thing] = rows.index((0,) * at + (1,) + (0,) * (len(task.things) - at - 1))
    stands = BagTable(task, joining, units).stands
    return (joining, {part: tuple(sorted(stands[part])) for part in task.parts if not task.table.is_pair_number(part)})


def _step(lot):
    """The greatest common divisor of the makers of a lot; 0 if there are none."""
    found = 0
    for maker in lot.makers:
        found = gcd(found, maker)
    return found


def _counted_bags(task, size, most):
    """The ascending list of the counted bags, or None if there are more than the most."""
    numbers = size + 1
    if task.lot.word == "free":
        numbers = 2
    if task.lot.word == "more":
        numbers = size + _step(task.lot)
    rows = [()]
    for _ in task.things:
        if len(rows) * numbers > most:
            return None
        rows = [row + (number,) for row in rows for number in range(numbers)]
    return rows


def _joined_bags(lot, size, rows):
    step = _step(lot)
    places = {row: at for at, row in enumerate(rows)}
    joining = []
    for row in rows:
        added = [tuple([_counted(lot, size, step, a + b) for a, b in zip(row, other)]) for other in rows]
        joining.append(tuple([places[bag] for bag in added]))
    return tuple(joining)


def _counted(lot, size, step, number):
    if lot.word == "free":
        return min(number, 1)
    if lot.word == "loan":
        return min(number, size)
    if number < size:
        return number
    return size + (number - size) % step


def _stands_without(joining, unit):
    """For each stand the list of those that, joined with the unit, are this stand."""
    found = [[] for _ in joining]
    for stand, row in enumerate(joining):
        found[row[unit]].append(stand)
    return found


class BagTable:
    """The least table of pairs of a stand and a part that it has.

    stands: the dict from parts to the dicts that have the stands with this part as keys.
    """

    def __init__(self, task, joining, units):
        self._table = task.table
        self._joining = joining
        self._below = [stands_of(mask) for mask in falls(joining, task.lot)]
        self._without = {thing: _stands_without(joining, units[thing]) for thing in units}
        # The pairs that have a part as their left, and as their right.
        self._lefts = {part: [] for part in task.parts}
        self._rights = {part: [] for part in task.parts}
        for part in task.parts:
            if task.table.is_pair_number(part):
                self._lefts[task.table.left(part)].append(part)
                self._rights[task.table.right(part)].append(part)
        self.stands = {part: {} for part in task.parts}
        self._waiting = []
        for thing in units:
            self._add(units[thing], thing)
        for _, number in task.tools:
            self._add(0, number)
        while self._waiting:
            stand, part = self._waiting.pop()
            self._follow(stand, part)

    def _add(self, stand, part):
        if stand not in self.stands[part]:
            self.stands[part][stand] = True
            self._waiting.append((stand, part))

    def _follow(self, stand, part):
        """Add what comes of it that a stand has a part."""
        for other in self._below[stand]:
            self._add(other, part)
        if self._table.is_pair_number(part):
            for other in list(self.stands[self._table.left(part)]):
                self._add(self._joining[stand][other], self._table.right(part))
        for pair in self._lefts[part]:
            for other in list(self.stands[pair]):
                self._add(self._joining[other][stand], self._table.right(pair))
        for pair in self._rights[part]:
            for other in self._without[self._table.left(pair)][stand]:
                self._add(other, pair)
