"""Bags counted by what they weigh, and the letters that they make, for the lot "once"."""


def once_rows(task, most):
    """The joining and the letters of the weighed bags of a task, or None if there are more than the most."""
    weights, depths = _weights(task)
    rows = _light_bags(task, weights, depths[task.wanted], most)
    if rows is None:
        return None
    joining = _joined_bags(task, rows)
    totals = [sum([weights[thing] * number for thing, number in zip(task.things, row)]) for row in rows]
    making = OnceMaking(task, joining, rows, totals)
    letters = {}
    for part in task.parts:
        if not task.table.is_pair_number(part):
            made = [stand for stand in range(len(rows)) if (stand, part) in making.made]
            # What is behind the light bags is the stand of all heavier ones.
            letters[part] = tuple(made + list(range(len(rows), len(joining))))
    return (joining, letters)


def _weights(task):
    """The dicts from the numbers of the parts to what they weigh, and to their depths."""
    weights = {}
    depths = {}
    # A pair has a greater number than its left and its right.
    for number in sorted(task.parts):
        weights[number] = 1
        depths[number] = 0
        if task.table.is_pair_number(number):
            left = task.table.left(number)
            right = task.table.right(number)
            weights[number] = max(1 + depths[left], weights[right])
            depths[number] = weights[left] + depths[right]
    return weights, depths


def _light_bags(task, weights, depth, most):
    """The ascending list of the bags that weigh at most so much, or None if there are too many beside a heavy one."""
    rows = [((), 0)]
    for thing in task.things:
        weight = weights[thing]
        wider = []
        for row, total in rows:
            for number in range((depth - total) // weight + 1):
                wider.append((row + (number,), total + number * weight))
        if len(wider) >= most:
            return None
        rows = wider
    return [row for row, _ in rows]


def _joined_bags(task, rows):
    heavy = len(rows)
    places = {row: at for at, row in enumerate(rows)}
    joining = []
    for row in rows:
        added = [tuple([a + b for a, b in zip(row, other)]) for other in rows]
        joining.append([places.get(bag, heavy) for bag in added])
    if task.things:
        joining = [row + [heavy] for row in joining] + [[heavy] * (heavy + 1)]
    return tuple([tuple(row) for row in joining])


class OnceMaking:
    """Which light bags make which letters, if each name stands once.

    made: the dict that has the pairs of a stand and a letter that it makes as keys.
    """

    def __init__(self, task, joining, rows, totals):
        self._table = task.table
        self._joining = joining
        self.made = {}
        # The stands of the things alone, and of the lefts of a thing's lefts.
        self._units = {}
        for at, thing in enumerate(task.things):
            unit = (0,) * at + (1,) + (0,) * (len(task.things) - at - 1)
            if unit in rows:
                self._units[thing] = rows.index(unit)
        # The pairs of stands that, joined, are a light bag.
        self._splits = [[] for _ in rows]
        for u in range(len(rows)):
            for v in range(len(rows)):
                if joining[u][v] < len(rows):
                    self._splits[joining[u][v]].append((u, v))
        # What is handed to a name in a bag weighs less than the bag, with what it takes.
        for _, stand in sorted([(total, stand) for stand, total in enumerate(totals)]):
            for thing in self._units:
                self._make(stand, thing)

    def _make(self, stand, thing):
        """Tell whether the stand makes the end of a thing by a name of this thing that is handed all others."""
        unit = self._units[thing]
        left_over = {rest: True for used, rest in self._splits[stand] if used == unit}
        for kind in self._table.lefts(thing):
            ahead = list(left_over)
            left_over = {}
            for at in ahead:
                for used, rest in self._splits[at]:
                    if rest not in left_over and self._makes(used, kind):
                        left_over[rest] = True
        if 0 in left_over:
            self.made[(stand, self._table.end(thing))] = True

    def _makes(self, stand, kind):
        for left in self._table.lefts(kind):
            stand = self._joining[stand][self._units[left]]
        return (stand, self._table.end(kind)) in self.made
