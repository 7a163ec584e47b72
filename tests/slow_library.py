"""A slow account of a library: all is told anew from what was edited, by the words of part 10."""

from usecounts.lots import Lot
from usecounts.programs import open_names
from usecounts.texts import kind_text, program_text
from tests import reference
from tests.test_judging import SlowJudge


class Account:
    """The lot and the entries at a time."""

    def __init__(self, lot, entries):
        self.lot, self.entries = lot, entries
        self.kinds = {name: self.told_kind(name) for name in entries}

    def uses(self, name):
        word, told = self.entries.get(name, ("none", None))
        return list(open_names(told)) if word == "define" else []

    def users(self, name):
        return sorted(user for user in self.entries if name in self.uses(user))

    def led_to(self, name):
        found = set(self.uses(name))
        size = -1
        while size < len(found):
            size = len(found)
            found |= {use for other in found for use in self.uses(other)}
        return sorted(found)

    def is_whole(self, name):
        """Whether all to which it is led is there, and none of it is led to itself."""
        return name in self.entries and name not in self.led_to(name) and all(self.is_whole(use) for use in self.uses(name))

    def told_kind(self, name):
        if name not in self.entries or name in self.led_to(name):
            return None
        if self.entries[name][0] != "define":
            return self.entries[name][1]
        if self.fault(name) is not None or any(self.told_kind(use) is None for use in self.uses(name)):
            return None
        return self.judge(name).kind(0)

    def judge(self, name):
        return SlowJudge(self.entries[name][1], {use: self.told_kind(use) for use in self.uses(name)})

    def fault(self, name):
        """The fault of a definition all of whose uses have kinds; else None."""
        if any(self.told_kind(use) is None for use in self.uses(name)):
            return None
        return self.judge(name).fault(self.lot, ())

    def is_why(self, name, found):
        """Whether this is why an entry has no kind."""
        if self.kinds[name] is not None:
            return found is None
        led_to = self.led_to(name)
        lacking = [other for other in led_to if other not in self.entries]
        if lacking:
            return found == ("lacking", lacking[0])
        if any(other in self.led_to(other) for other in led_to + [name]):
            word, row = found
            if word != "ring" or not isinstance(row, tuple) or len(set(row)) != len(row) or not row:
                return False
            if not set(row) <= set(led_to + [name]):
                return False
            return all(after in self.uses(ahead) for ahead, after in zip(row, row[1:] + row[:1]))
        for other in sorted(set(led_to + [name])):
            if self.entries[other][0] == "define" and all(self.kinds[use] is not None for use in self.uses(other)) and self.fault(other) is not None:
                return found == ("fault", other, self.fault(other))
        return False

    def tools(self):
        return tuple((name, self.entries[name][1]) for name in sorted(self.entries) if self.entries[name][0] == "tool")

    def linked(self, name):
        """The term of the linked program."""
        if name not in self.entries or self.entries[name][0] != "define":
            return ("open", name)
        return self.filled(reference.term(self.entries[name][1]))

    def filled(self, found):
        if found[0] == "open":
            return self.linked(found[1])
        if found[0] == "use":
            return ("use", self.filled(found[1]), self.filled(found[2]))
        if found[0] == "take":
            return ("take", found[1], self.filled(found[2]))
        return found

    def outcome(self, name):
        return tuple(tools_of(reference.rest(self.linked(name))))


def tools_of(found):
    if found[0] == "open":
        return [found[1]]
    return tools_of(found[1]) + tools_of(found[2])


class SlowLibrary:
    """All edits, and how many of them are not taken back."""

    def __init__(self, lot):
        self.edits, self.many = [], 0
        self.first = lot
        self.ahead = None
        self.now = self.account()
        self.put, self.told = None, []
        self.note("relot " + lot_words(lot))

    def account(self):
        lot, entries = self.first, {}
        for name, told in self.edits[:self.many]:
            if name is None:
                lot = told
            elif told is None:
                del entries[name]
            else:
                entries[name] = told
        return Account(lot, entries)

    def note(self, text):
        check = sum(place * ord(sign) for place, sign in enumerate(text, 1)) % 9973
        self.told.append(f"{text} #{check}\n")

    def edit(self, name, told, text):
        self.edits[self.many:] = [(name, told)]
        self.many += 1
        self.turned(name)
        self.note(text)

    def turned(self, name):
        self.ahead, self.now, self.put = self.now, self.account(), name

    def tool(self, name, kind):
        self.edit(name, ("tool", kind), f"tool {name} {kind_text(kind)}")

    def define(self, name, program):
        self.edit(name, ("define", program), f"define {name} {program_text(program)}")

    def wish(self, name, kind):
        self.edit(name, ("wish", kind), f"wish {name} {kind_text(kind)}")

    def drop(self, name):
        self.edit(name, None, f"drop {name}")

    def relot(self, lot):
        self.edit(None, lot, "relot " + lot_words(lot))

    def undo(self):
        self.many -= 1
        self.turned(self.edits[self.many][0])
        self.note("undo")

    def redo(self):
        self.many += 1
        self.turned(self.edits[self.many - 1][0])
        self.note("redo")

    def changed(self):
        if self.ahead is None:
            return []
        names = {**self.ahead.kinds, **self.now.kinds}
        return sorted(name for name in names if self.ahead.kinds.get(name) != self.now.kinds.get(name))

    def judged(self):
        if self.ahead is None:
            return []
        found, changed = [], self.changed()
        for name in sorted(self.now.entries):
            if self.now.entries[name][0] == "define":
                if name == self.put or self.ahead.lot != self.now.lot or set(self.now.uses(name)) & set(changed):
                    found.append(name)
        return found

    def journal(self):
        return "".join(self.told)


def lot_words(lot):
    return " ".join([lot.word, *map(str, lot.makers)])


LOTS = [Lot("once", ()), Lot("loan", ()), Lot("free", ()), Lot("more", (1,)), Lot("more", (2,)), Lot("more", (2, 3))]
KINDS = [0, 0, 1, (0, 0), (0, 0), (0, 1), (0, (0, 0)), ((0, 0), 0)]


def lefts_ahead(kind, wanted):
    """How many lefts stand ahead of the wanted kind; None if it stands nowhere."""
    many = 0
    while kind != wanted:
        if not isinstance(kind, tuple):
            return None
        many, kind = many + 1, kind[1]
    return many


def grown(chance, named, wanted, deep):
    """A program of the wanted kind, right where every number is held; None if it was found none."""
    fits = [(name, lefts_ahead(kind, wanted)) for name, kind in named.items() if lefts_ahead(kind, wanted) is not None]
    if deep <= 0:
        fits = [(name, many) for name, many in fits if many == 0]
    way = chance.random()
    if deep > 0 and way < 0.2:
        left = chance.choice(KINDS)
        row = [taken(chance, named, (left, wanted), deep - 1), grown(chance, named, left, deep - 1)]
        return None if None in row else ("@",) + row[0] + row[1]
    if isinstance(wanted, tuple) and (way < 0.6 or not fits):
        return taken(chance, named, wanted, deep)
    if not fits:
        return None
    name, many = chance.choice(fits)
    words, kind = (name,), named[name]
    for _ in range(many):
        handed = grown(chance, named, kind[0], deep - 1)
        if handed is None:
            return None
        words, kind = ("@",) + words + handed, kind[1]
    return words


def taken(chance, named, wanted, deep):
    name = chance.choice(["x", "y", "a", "b"])
    body = grown(chance, {**named, name: wanted[0]}, wanted[1], deep)
    return None if body is None else ((name, wanted[0]),) + body


def some_program(chance, named, names, wanted):
    """A program, right where every number is held for the most part, that may use any of the names."""
    known = {name: kind for name, kind in named.items() if kind is not None}
    for _ in range(8):
        found = grown(chance, known, wanted, chance.randrange(1, 4))
        if found is not None and len(found) <= 40:
            at = chance.randrange(len(found))
            if chance.random() < 0.25 and isinstance(found[at], str) and found[at] != "@":
                found = found[:at] + (chance.choice(names),) + found[at + 1:]
            return found
    return (chance.choice(names),)


def some_edit(chance, library, names, is_filled):
    """An edit, undo or redo that raises nothing: the name of a method and its arguments."""
    now = library.now
    is_taken_back = library.many < len(library.edits)
    way = chance.random()
    if way < (0.4 if is_taken_back else 0.15) and library.many:
        return "undo", ()
    way = chance.random()
    if way < 0.6 and is_taken_back:
        return "redo", ()
    way = chance.uniform(0.2, 1)
    name = chance.choice(names)
    if way < 0.26 and now.entries:
        return "drop", (chance.choice(sorted(now.entries)),)
    if way < 0.31:
        return "relot", (chance.choice(LOTS),)
    others = [tool for tool, _ in now.tools() if tool != name]
    if way < 0.5 and len(others) < 8:
        return "tool", (name, chance.choice(KINDS))
    if way < 0.57:
        return "wish", (name, chance.choice(KINDS))
    return "define", (name, some_program(chance, now.kinds, names, chance.choice(KINDS)) if is_filled else (chance.choice(names),))
