"""Joinings: how the stands of a house are joined, each with each."""

from usecounts.basics import is_integer_within

MOST_STANDS = 200


def is_stands(many, thing):
    """Whether a thing is a tuple of stands, of which there are so many."""
    if not isinstance(thing, tuple):
        return False
    return all([is_integer_within(0, many - 1, item) for item in thing])


def is_joining(thing):
    """Whether a thing is a tuple of rows that tells of stands, 0 is nothing, how they are joined."""
    if not isinstance(thing, tuple) or not 1 <= len(thing) <= MOST_STANDS:
        return False
    many = len(thing)
    if not all([is_stands(many, row) and len(row) == many for row in thing]):
        return False
    return list(thing[0]) == list(range(many)) and _is_without_order(thing) and _is_without_brackets(thing)


def _is_without_order(joining):
    return all([row[v] == joining[v][u] for u, row in enumerate(joining) for v in range(u)])


def _is_without_brackets(joining):
    for u, row in enumerate(joining):
        # Where order does not matter, no greater v need be looked at.
        for v in range(u + 1):
            if [row[w] for w in joining[v]] != list(joining[row[v]]):
                return False
    return True


def falls(joining, lot):
    """For each stand the mask of stands that must have what it has; what these have, others must have in turn.

    A mask has, for each stand in it, the bit at this place.
    """
    found = [0] * len(joining)
    numbers = _enough_numbers(lot)
    for v in range(len(joining)):
        multiples = {_times(joining, v, number): True for number in numbers}
        for many in multiples:
            for row in joining:
                found[row[many]] |= 1 << row[v]
    return found


def _enough_numbers(lot):
    """Numbers that the lot holds, from which all others come in turn.

    With 3 falls u and 5 times v, which is (u and twice v) and 3 times v, to u
    and 3 times v, and this to u and v: so 5 need not be among them.
    """
    if lot.word == "loan":
        return [0]
    if lot.word == "free":
        return [0, 2]
    return [maker + 1 for maker in lot.makers]


def _times(joining, stand, number):
    """A stand joined with itself so often."""
    found = 0
    while number > 0:
        if number % 2 == 1:
            found = joining[found][stand]
        stand = joining[stand][stand]
        number = number // 2
    return found


def mask_of(stands):
    """The mask of these stands, each of which is told once."""
    return sum([1 << stand for stand in stands])


def stands_of(mask):
    """The ascending list of the stands of a mask."""
    return [stand for stand in range(mask.bit_length()) if mask >> stand & 1]


def turning(joining, left, right):
    """The mask of the stands that, joined with any stand of one mask, are in another one."""
    handed = stands_of(left)
    inside = [right >> stand & 1 for stand in range(len(joining))]
    return mask_of([u for u, row in enumerate(joining) if all([inside[row[v]] for v in handed])])


def lean_rows(joining, letters):
    """The joining and the letters in which stands are one that, joined with whatever stand, have the same letters."""
    told = [0] * len(joining)
    for letter in letters:
        for stand in letters[letter]:
            told[stand] += 1 << letter
    number_of = {}
    kept = []
    numbers = []
    for stand, row in enumerate(joining):
        acts = tuple([told[behind] for behind in row])
        if acts not in number_of:
            number_of[acts] = len(kept)
            kept.append(stand)
        numbers.append(number_of[acts])
    lean_joining = tuple([tuple([numbers[joining[u][v]] for v in kept]) for u in kept])
    lean_letters = {}
    for letter in letters:
        has = letters[letter]
        lean_letters[letter] = tuple([number for number, stand in enumerate(kept) if stand in has])
    return (lean_joining, lean_letters)
