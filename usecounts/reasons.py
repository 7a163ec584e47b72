"""Why an entry has no kind."""


def reason(shelf, name):
    """None for an entry with a kind; else what is lacking, a ring, or the least definition that is not right."""
    if shelf.kind(name) is not None:
        return None
    led_to = shelf.led_to(name)
    for other in led_to:
        if other not in shelf.entries:
            return ("lacking", other)
    row = _ring(shelf, led_to)
    if row:
        return ("ring", row)
    for other in sorted(set(led_to + [name])):
        # Only definitions have no kind.
        if shelf.kind(other) is None and shelf.is_ready(other):
            return ("fault", other, shelf.judged(other).fault)
    return None


def _ring(shelf, names):
    """A ring of entries among these names, to which some entry is led; () if there is none."""
    told = {name: True for name in shelf.order()}
    ringed = {name: True for name in names if name not in told}
    if not ringed:
        return ()
    # Each of these is led to a ring, so it uses another one of them.
    row = []
    name = min(list(ringed))
    while name not in row:
        row.append(name)
        name = min([use for use in shelf.uses(name) if use in ringed])
    return tuple(row[row.index(name):])
