"""Another way to tell what programs do, with a call for each part: the tests hold the package against it.

A term is ("open", name), ("own", many): the name of the take behind so many others
around, counted outward; ("use", f, a), or ("take", kind, body).
"""

import random


def term(program):
    """The term of a program."""
    found, behind = _term(program, 0, [])
    assert behind == len(program)
    return found


def _term(words, place, around):
    word = words[place]
    if word == "@":
        user, behind = _term(words, place + 1, around)
        handed, behind = _term(words, behind, around)
        return ("use", user, handed), behind
    if isinstance(word, tuple):
        body, behind = _term(words, place + 1, [word[0]] + around)
        return ("take", word[1], body), behind
    if word in around:
        return ("own", around.index(word)), place + 1
    return ("open", word), place + 1


def lifted(found, by, inside=0):
    """The term with its own names that are taken further out than inside lifted."""
    if found[0] == "own":
        return ("own", found[1] + by) if found[1] >= inside else found
    if found[0] == "use":
        return ("use", lifted(found[1], by, inside), lifted(found[2], by, inside))
    if found[0] == "take":
        return ("take", found[1], lifted(found[2], by, inside + 1))
    return found


def put_in(body, handed, at=0):
    """The body of a take with what is handed in the place of its name."""
    if body[0] == "own":
        if body[1] == at:
            return lifted(handed, at)
        return ("own", body[1] - 1) if body[1] > at else body
    if body[0] == "use":
        return ("use", put_in(body[1], handed, at), put_in(body[2], handed, at))
    if body[0] == "take":
        return ("take", body[1], put_in(body[2], handed, at + 1))
    return body


def size(found):
    if found[0] == "use":
        return 1 + size(found[1]) + size(found[2])
    if found[0] == "take":
        return 1 + size(found[2])
    return 1


def is_step_term(found):
    return found[0] == "use" and found[1][0] == "take"


def steps(found, place=0):
    """The list of the places of steps."""
    places = [place] if is_step_term(found) else []
    if found[0] == "use":
        return places + steps(found[1], place + 1) + steps(found[2], place + 1 + size(found[1]))
    if found[0] == "take":
        return steps(found[2], place + 1)
    return places


def stepped(found, place):
    """The term behind the step at a place."""
    if place == 0:
        return put_in(found[1][2], found[2])
    if found[0] == "take":
        return ("take", found[1], stepped(found[2], place - 1))
    if place <= size(found[1]):
        return ("use", stepped(found[1], place - 1), found[2])
    return ("use", found[1], stepped(found[2], place - 1 - size(found[1])))


def rest(found):
    """The term without steps to which steps lead, the inner ones first."""
    if found[0] == "take":
        return ("take", found[1], rest(found[2]))
    if found[0] == "use":
        user, handed = rest(found[1]), rest(found[2])
        if user[0] == "take":
            return rest(put_in(user[2], handed))
        return ("use", user, handed)
    return found


def kind(found, named, around=()):
    if found[0] == "open":
        return named[found[1]]
    if found[0] == "own":
        return around[found[1]]
    if found[0] == "take":
        return (found[1], kind(found[2], named, (found[1],) + around))
    return kind(found[1], named, around)[1]


def plain(found, named, around=()):
    """The plain term of a term without steps."""
    told = kind(found, named, around)
    if found[0] == "take":
        return ("take", found[1], plain(found[2], named, (found[1],) + around))
    if isinstance(told, tuple):
        return plain(("take", told[0], ("use", lifted(found, 1), ("own", 0))), named, around)
    return _plain_uses(found, named, around)


def _plain_uses(found, named, around):
    if found[0] == "use":
        return ("use", _plain_uses(found[1], named, around), plain(found[2], named, around))
    return found


class Maker:
    """Makes programs by a row of numbers that looks like chance and is the same each time."""

    def __init__(self, seed, names=("a", "b", "f", "x")):
        self.chance = random.Random(seed)
        self.names = names

    def some_kind(self, deep):
        if deep == 0 or self.chance.random() < 0.4:
            return self.chance.randrange(2)
        return (self.some_kind(deep - 1), self.some_kind(deep - 1))

    def program(self, wanted, named, fuel):
        """The words of a program of the wanted kind, of these named kinds; None if it was found none."""
        way = self.chance.random()
        if fuel > 2 and way < 0.3:
            return self.with_step(wanted, named, fuel)
        if isinstance(wanted, tuple) and way < 0.6:
            return self.take(wanted, named, fuel)
        fits = [(name, many) for name, told in named.items() for many in self.lefts_ahead(told, wanted)]
        if not fits:
            return self.take(wanted, named, fuel) if isinstance(wanted, tuple) else None
        if fuel <= 0:
            fits = [fit for fit in fits if fit[1] == min(many for _, many in fits)]
        if fuel < -20:
            return None
        name, many = self.chance.choice(fits)
        return self.uses(name, many, named, fuel)

    def lefts_ahead(self, told, wanted):
        many = 0
        while told != wanted:
            if not isinstance(told, tuple):
                return []
            many, told = many + 1, told[1]
        return [many]

    def take(self, wanted, named, fuel):
        name = self.chance.choice(self.names)
        body = self.program(wanted[1], {**named, name: wanted[0]}, fuel - 1)
        return None if body is None else ((name, wanted[0]),) + body

    def with_step(self, wanted, named, fuel):
        left = self.some_kind(2)
        user = self.take((left, wanted), named, fuel // 2)
        handed = self.program(left, named, fuel // 2)
        return None if user is None or handed is None else ("@",) + user + handed

    def uses(self, name, many, named, fuel):
        words, told = (name,), named[name]
        for _ in range(many):
            handed = self.program(told[0], named, (fuel - 1) // many - 1)
            if handed is None:
                return None
            words, told = ("@",) + words + handed, told[1]
        return words


NAMED = {"z": 0, "w": 1, "g": (0, (0, 0)), "h": ((0, 1), 0), "k": (0, 1)}


def some_programs(many, seed=1, named=NAMED, fuel=14):
    """So many programs, right where every number is held, with their kinds."""
    maker = Maker(seed)
    found = []
    while len(found) < many:
        wanted = maker.some_kind(2)
        words = maker.program(wanted, named, fuel)
        if words is not None and len(words) <= 200:
            found.append((words, wanted))
    return found
