"""1.2, the first fact: raw lots with which a step may break a program."""

import itertools
import unittest

from usecounts.breaking import breaking, is_breaking
from usecounts.errors import BadLot, TooMany
from usecounts.judging import Book, fault
from usecounts.kinds import built
from usecounts.lots import Lot, RawLot, told_lot
from usecounts.programs import is_program
from usecounts.stepping import stepped, steps
from tests import reference
from tests.odd_things import odd_integers, odd_things
from tests.test_judging import no_named
from tests.test_programs import no_programs


def raw_lots(heads, rounds):
    """The raw lots with so many flags at most."""
    found = []
    for one in range(heads + 1):
        for two in range(1, rounds + 1):
            for flags in itertools.product((False, True), repeat=one + two):
                try:
                    found.append(RawLot(flags[:one], flags[one:]))
                except BadLot:
                    pass
    return found


def shows(raw, thing):
    """Whether a triple of the right kinds shows that a step breaks a program, told by doing the step."""
    handed, program, place = thing
    book = Book(raw, ())
    if fault(book, handed, program) is not None or place not in steps(program):
        return False
    return fault(book, handed, stepped(program, place)) is not None


class BreakingTest(unittest.TestCase):

    def check(self, raw):
        found = breaking(raw)
        if told_lot(raw) is not None:
            self.assertIsNone(found)
            return False
        self.assertIs(found.__class__, tuple)
        self.assertEqual(len(found), 3)
        self.assertIs(is_program(found[1]), True)
        self.assertIs(shows(raw, found), True)
        self.assertIs(is_breaking(raw, found), True)
        self.assertEqual(breaking(raw), found)
        return True

    def test_small_raw_lots(self):
        many = [self.check(raw) for raw in raw_lots(3, 3)]
        self.assertGreater(many.count(True), 50)
        self.assertGreater(many.count(False), 5)

    def test_great_raw_lots(self):
        rows = [
            RawLot(heads, rounds) for heads in itertools.product((False, True), repeat=8) if heads[1] and heads[6] != heads[3]
            for rounds in [(False,) * 6, (True,), (False, True, True, True, True, True), (True, False, False, False, False, False), (False, True)]
        ]
        self.assertGreater([self.check(raw) for raw in rows].count(True), 100)

    def test_raw_lots_that_hold_what_lots_hold(self):
        lots = [Lot("once", ()), Lot("loan", ()), Lot("free", ())]
        lots += [Lot("more", makers) for many in (1, 2, 3) for makers in itertools.combinations(range(1, 13), many)]
        told = 0
        for lot in lots:
            flags = tuple([lot.has(number) for number in range(14)])
            for rounds in range(1, 7):
                raw = RawLot(flags[:8], flags[8:8 + rounds])
                if told_lot(raw) == lot:
                    self.assertIsNone(breaking(raw))
                    told += 1
        self.assertGreater(told, 50)

    def test_the_raw_lots_that_need_the_greatest_program(self):
        # 12 alone is held of what might break: a taken name stands 12 times.
        raw = RawLot((False, True, False, False, False, False, False, False), (False, False, False, False, True, False))
        self.assertIs(self.check(raw), True)

    def test_a_new_book_each_time(self):
        raw = RawLot((False, True, True), (False,))
        handed, program, place = breaking(raw)
        self.assertIs(is_breaking(RawLot((False, True, True, False), (False, False)), (handed, program, place)), True)
        self.assertIs(is_breaking(RawLot((), (True,)), (handed, program, place)), False)


class IsBreakingTest(unittest.TestCase):

    def setUp(self):
        self.raw = RawLot((False, True, True), (False,))
        # y stands twice, and behind the step three times.
        self.handed = (("g", (0, (0, 0))), ("y", 0))
        self.program = ("@", ("x", 0), "@", "@", "g", "x", "x", "y")
        self.long = ("@", ("x", 0), "@", "@", "g", "x", "@", "@", "g", "x", "y", "y")

    def test_ordinary(self):
        self.assertIs(is_breaking(self.raw, (self.handed, self.program, 0)), False)
        self.assertIsNone(fault(Book(self.raw, ()), self.handed, self.long))
        self.assertIs(is_breaking(self.raw, (self.handed, self.long, 0)), True)
        self.assertIs(is_breaking(RawLot((False, True, True, True), (False,)), (self.handed, self.long, 0)), False)

    def test_a_take_around_is_broken(self):
        program = (("y", 0),) + self.long
        self.assertIs(is_breaking(self.raw, (self.handed[:1], program, 1)), True)
        self.assertIs(is_breaking(self.raw, (self.handed[:1], program, 0)), False)
        # Takes inside of what is handed, and in the body, are told as often as ahead.
        inside = ("@", ("v", 0), "@", "@", "k", "v", "v", "y")
        program = ("@", ("x", 0), "@", "@", "g", "x", "@", ("u", 0), "u", "x") + inside
        handed = (("g", (0, (0, 0))), ("k", (0, (0, 0))), ("y", 0))
        self.assertIsNone(fault(Book(self.raw, ()), handed, program))
        self.assertIs(is_breaking(self.raw, (handed, program, 0)), False)

    def test_taken_nowhere(self):
        raw = RawLot((True, True, False, True), (False,))
        handed, program = (("g", (0, (0, 0))), ("y", 0)), ("@", ("x", 0), "@", "@", "g", "y", "y", "y")
        self.assertIs(is_breaking(raw, (handed, program, 0)), True)
        self.assertIs(is_breaking(RawLot((True, True, True, True), (False,)), (handed, program, 0)), False)

    def test_one_thing_changed(self):
        for raw in (self.raw, RawLot((False, True, False, True), (False,)), RawLot((True, True), (False, False, True))):
            handed, program, place = breaking(raw)
            for other in range(-2, len(program) + 2):
                self.assertIs(is_breaking(raw, (handed, program, other)), other == place)
            for other in (True, False, None, "0", (0,), [0]):
                self.assertIs(is_breaking(raw, (handed, program, other)), False)
            words = ["@", "x", "y", "z", "g", ("x", 0), ("q", 0), ("x", (0, 0)), 0, None]
            changed = [program[:at] + program[at + 1:] for at in range(len(program))]
            changed += [program[:at] + (word,) + program[at:] for at in range(len(program) + 1) for word in words]
            changed += [program[:at] + (word,) + program[at + 1:] for at in range(len(program)) for word in words]
            for other in changed:
                told = is_program(other) and shows(raw, (handed, other, place))
                self.assertIs(is_breaking(raw, (handed, other, place)), told)
            for at, (name, kind) in enumerate(handed):
                for item in ((name, 1), (name, (0, kind)), (name, (1, kind)), ("q", kind), (name + "a", kind)):
                    other = handed[:at] + (item,) + handed[at + 1:]
                    self.assertIs(is_breaking(raw, (other, program, place)), shows(raw, (other, program, place)))
                for item in ([name, kind], (name,), name, (name, kind, kind), (name.upper(), kind), (name, None), (name, True), None):
                    other = handed[:at] + (item,) + handed[at + 1:]
                    self.assertIs(is_breaking(raw, (other, program, place)), False)
                self.assertIs(is_breaking(raw, (handed[:at] + handed[at + 1:], program, place)), False)
                self.assertIs(is_breaking(raw, (handed + (handed[at],), program, place)), False)
            self.assertIs(is_breaking(raw, (handed[::-1], program, place)), True)
            self.assertIs(is_breaking(raw, (handed + (("q", 0),), program, place)), raw.has(0))

    def test_lists_and_other_shapes(self):
        handed, program, place = found = breaking(self.raw)
        for thing in [
            list(found), (list(handed), program, place), (handed, list(program), place), (handed, program, [place]), found[:2], found + (0,),
            (program, handed, place), (handed, place, program), (place, handed, program), handed, program, (found,), (handed, program, place, place),
            [handed, program, place], (tuple(map(list, handed)), program, place), {0: handed, 1: program, 2: place}, (dict(handed), program, place),
        ]:
            self.assertIs(is_breaking(self.raw, thing), False)

    def test_things(self):
        handed, program, place = breaking(self.raw)
        for thing in odd_things() + odd_integers():
            self.assertIs(is_breaking(self.raw, thing), False)
        for thing in no_programs():
            self.assertIs(is_breaking(self.raw, (handed, thing, place)), False)
            self.assertIs(is_breaking(self.raw, ((), thing, place)), False)
        for thing in no_named(6):
            self.assertIs(is_breaking(self.raw, (thing, program, place)), False)

    def test_never_where_a_lot_holds_the_same(self):
        handed = tuple(reference.NAMED.items())
        for raw in (RawLot((), (True,)), RawLot((False,), (True, False)), RawLot((True, True), (False,)), RawLot((False, True), (False,))):
            self.assertIsNotNone(told_lot(raw))
            for program, _ in reference.some_programs(200, 41):
                for place in steps(program):
                    self.assertIs(is_breaking(raw, (handed, program, place)), False)

    def test_made_programs(self):
        handed = tuple(reference.NAMED.items())
        many = 0
        rows = [RawLot((True, True, True), (False,)), RawLot((True, True), (False, True)), RawLot((True, True, False), (True,))]
        for program, _ in reference.some_programs(3000, 42, fuel=24):
            for raw in rows:
                for place in steps(program):
                    told = shows(raw, (handed, program, place))
                    self.assertIs(is_breaking(raw, (handed, program, place)), told)
                    many += told
        self.assertGreater(many, 20)

    def test_greater_than_5000_words_behind(self):
        # The first holds 1 and 2, 8, 14, .., so not 68 times 68; the other 1, 4, 7, .., so 67 times 67.
        for raw, many, told in ((RawLot((False, True), (True,) + (False,) * 5), 68, True), (RawLot((False, True, False), (False, True, False)), 67, False)):
            handed = (("g", built((0,) * many, 0)), ("h", built((0,) * many, 0)), ("y", 0))
            program = ("@", ("x", 0)) + ("@",) * many + ("g",) + ("x",) * many + ("@",) * many + ("h",) + ("y",) * many
            self.assertIsNone(fault(Book(raw, ()), handed, program))
            self.assertRaises(TooMany, stepped, program, 0)
            self.assertIs(is_breaking(raw, (handed, program, 0)), told)


if __name__ == "__main__":
    unittest.main()
