"""2.3: books, and what they tell of programs."""

import random
import unittest

from usecounts.errors import BadBook, CountsError, Faulty, NoHanded, NoProgram
from usecounts.judging import Book, fault, kind_of
from usecounts.kinds import built, lefts
from usecounts.lots import Lot, RawLot, around
from usecounts.programs import counts
from tests import reference
from tests.odd_things import nested, odd_integers, odd_things
from tests.test_programs import no_programs

ONCE, LOAN, FREE = Lot("once", ()), Lot("loan", ()), Lot("free", ())
ODD, DUTY = Lot("more", (2,)), Lot("more", (1,))


def no_named(most):
    """Things that are no tuple of at most so many pairs of unlike names and kinds."""
    rows = [
        [], [("a", 0)], (["a", 0],), (("a",),), (("a", 0, 0),), (("a", 26),), (("a", -1),), (("a", True),), (("a", None),), (("a", [0, 0]),),
        (("a", (0,)),), (("A", 0),), (("", 0),), (("abcdefghi", 0),), (("a1", 0),), ((b"a", 0),), ((0, "a"),), ((0, 0),), ("a", 0), (("a", "b"),),
        (("a", 0), ("a", 0)), (("a", 0), ("b", 0), ("a", 1)), (("a", 0), None), (("a", 0), "b"), "a", ("ab",), {"a": 0}, 0, True, None,
        (("@", 0),), ((("a", 0), 0),), ((("a",), 0),), (("a", nested(38, lambda core: (0, core), 26)),),
        tuple((name, 0) for name in "abcdefghijklm"[:most + 1]), tuple((name, 0) for name in "abcdefghijklm"),
    ]
    return rows + [thing for thing in odd_things() + odd_integers() if thing != ()]


class BookTest(unittest.TestCase):

    def test_attributes(self):
        for lot in (ONCE, LOAN, FREE, ODD, around(ODD, Lot("more", (3,))), RawLot((), (True,)), RawLot((False, True), (False,))):
            for tools in ((), (("a", 0),), (("two", (0, (0, 0))), ("one", 0)), tuple((name, 25) for name in "abcdefgh")):
                book = Book(lot, tools)
                self.assertEqual((book.lot, book.tools), (lot, tools))

    def test_eight_tools_and_nine(self):
        self.assertEqual(len(Book(FREE, tuple((name, 0) for name in "abcdefgh")).tools), 8)
        with self.assertRaises(BadBook) as caught:
            Book(FREE, tuple((name, 0) for name in "abcdefghi"))
        self.assertEqual(caught.exception.part, "tools")

    def test_bad_lots(self):
        for thing in [*odd_things(), *odd_integers(), "once", ("more", (1,)), None, Book(FREE, ())]:
            if isinstance(thing, (Lot, RawLot)):
                continue
            for tools in ((), [], None, (("a", 0), ("a", 0))):
                with self.assertRaises(BadBook) as caught:
                    Book(thing, tools)
                self.assertEqual(caught.exception.part, "lot")

    def test_bad_tools(self):
        for thing in no_named(8):
            with self.assertRaises(BadBook) as caught:
                Book(ODD, thing)
            self.assertEqual(caught.exception.part, "tools")
            self.assertIs(caught.exception.__class__.__mro__[1], CountsError)

    def test_equal(self):
        tools = (("a", 0), ("b", (0, 1)))
        rows = [
            Book(FREE, ()), Book(ODD, ()), Book(ODD, tools), Book(ODD, tools[:1]), Book(ODD, (tools[1], tools[0])), Book(LOAN, tools),
            Book(ODD, (("a", 0), ("b", (0, 2)))), Book(ODD, (("a", 0), ("c", (0, 1)))), Book(RawLot((), (False, True)), tools),
            Book(RawLot((), (True,)), ()), Book(ODD, (("a", 1), ("b", (0, 1)))), Book(ODD, (("a", 0), ("b", ((0, 0), 1)))),
            Book(ODD, (("a", 0), ("b", (0, (0, 1))))),
        ]
        for at, book in enumerate(rows):
            for other in range(len(rows)):
                self.assertIs(book == rows[other], at == other)
                self.assertIs(book != rows[other], at != other)
            for thing in [*odd_things(), *odd_integers(), FREE, (FREE, ()), tools]:
                self.assertIs(book == thing, False)

    def test_equal_by_what_lots_hold(self):
        self.assertEqual(Book(Lot("more", (4, 2)), ()), Book(ODD, ()))
        self.assertEqual(Book(RawLot((), (True,)), ()), Book(RawLot((True,), (True, True)), ()))
        self.assertNotEqual(Book(RawLot((), (True,)), ()), Book(FREE, ()))

    def test_equal_with_great_kinds(self):
        kind = nested(1500, lambda core: built((core,), 0), 3)
        same = nested(1500, lambda core: built((core,), 0), 3)
        self.assertIs(Book(FREE, (("a", kind),)) == Book(FREE, (("a", same),)), True)
        self.assertIs(Book(FREE, (("a", kind),)) == Book(FREE, (("a", (same, 0)),)), False)


class FaultTest(unittest.TestCase):

    def test_right(self):
        two = Book(ODD, (("two", (0, (0, 0))), ("one", 0)))
        for program, kind in [
            (("one",), 0), (("two",), (0, (0, 0))), (("@", "@", "two", "one", "one"), 0), (("@", "two", "one"), (0, 0)),
            ((("x", 5), "x"), (5, 5)), ((("f", (0, 1)), ("x", 0), "@", "f", "x"), ((0, 1), (0, 1))),
            (("@", ("x", 0), "x", "one"), 0), (("@", ("x", 0), "@", "@", "two", "x", "@", "@", "two", "x", "x", "one"), 0),
        ]:
            self.assertIsNone(fault(two, (), program))
            self.assertEqual(kind_of(two, (), program), kind)

    def test_e03_and_other_lots(self):
        program = (("f", (0, (0, 1))), ("x", 0), "@", "@", "f", "x", "x")
        for lot, told in [(ODD, ("count", 1, 2)), (ONCE, ("count", 1, 2)), (LOAN, ("count", 1, 2)), (FREE, None), (DUTY, None)]:
            self.assertEqual(fault(Book(lot, ()), (), program), told)
        self.assertEqual(kind_of(Book(FREE, ()), (), program), ((0, (0, 1)), (0, 1)))

    def test_open(self):
        book = Book(ONCE, (("one", 0),))
        self.assertEqual(fault(book, (), ("x",)), ("open", 0))
        self.assertEqual(fault(book, (("x", 0),), ("@", "one", "y")), ("open", 2))
        self.assertEqual(fault(book, (), ("@", "y", "z")), ("open", 1))
        self.assertEqual(fault(book, (), ("@", ("x", 0), "x", "x")), ("open", 3))
        self.assertEqual(fault(book, (), (("x", 0), "@", "x", "y")), ("open", 3))

    def test_kind(self):
        book = Book(FREE, (("one", 0), ("f", (0, 1)), ("g", (1, 0))))
        self.assertEqual(fault(book, (), ("@", "one", "one")), ("kind", 0))
        self.assertEqual(fault(book, (), ("@", "f", "f")), ("kind", 0))
        self.assertEqual(fault(book, (), ("@", "g", "one")), ("kind", 0))
        self.assertEqual(fault(book, (), ("@", "f", "@", "f", "one")), ("kind", 0))
        self.assertIsNone(fault(book, (), ("@", "g", "@", "f", "one")))
        self.assertEqual(fault(book, (), (("x", 1), "@", "f", "x")), ("kind", 1))
        self.assertEqual(fault(book, (), ("@", ("x", 1), "x", "one")), ("kind", 0))
        self.assertEqual(fault(book, (), ("@", ("one", 1), "one", "one")), ("kind", 0))

    def test_the_least_kind_fault_whose_parts_have_kinds(self):
        book = Book(FREE, (("one", 0), ("f", (0, 1)), ("g", (1, (1, 0)))))
        # The use at 0 has an f without a kind.
        self.assertEqual(fault(book, (), ("@", "@", "one", "one", "one")), ("kind", 1))
        # Both a's of g are wrong in themselves; neither use of g has parts with kinds.
        self.assertEqual(fault(book, (), ("@", "@", "g", "@", "f", "f", "@", "one", "one")), ("kind", 3))
        self.assertEqual(fault(book, (), ("@", "@", "g", "@", "f", "one", "@", "one", "one")), ("kind", 6))
        # Two wrong uses beside one another, the one around both not judged.
        self.assertEqual(fault(book, (), ("@", "@", "f", "f", "@", "f", "g")), ("kind", 1))
        # A wrong use in a take's body: the take has no kind.
        self.assertEqual(fault(book, (), ("@", ("x", 0), "@", "x", "x", "one")), ("kind", 2))
        self.assertEqual(fault(book, (), ("@", "one", ("x", 0), "@", "one", "x")), ("kind", 3))

    def test_handed(self):
        handed = (("x", 0), ("y", 0), ("f", (0, (0, 0))))
        program = ("@", "@", "f", "x", "y")
        for lot in (ONCE, LOAN, FREE, ODD, DUTY, RawLot((), (False, True))):
            self.assertIsNone(fault(Book(lot, ()), handed, program))
        self.assertEqual(fault(Book(ONCE, ()), handed + (("z", 0),), program), ("handed", "z", 0))
        self.assertEqual(fault(Book(DUTY, ()), (("z", 0),) + handed, program), ("handed", "z", 0))
        self.assertIsNone(fault(Book(LOAN, ()), (("z", 0),) + handed, program))
        self.assertIsNone(fault(Book(RawLot((True, True), (False,)), ()), (("z", 0),) + handed, program))
        self.assertIsNone(fault(Book(RawLot((True, True, False), (False,)), ()), (("z", 0),) + handed, program))
        self.assertEqual(fault(Book(RawLot((False,), (True,)), ()), handed + (("z", 3), ("w", 4)), program), ("handed", "z", 0))
        # The first of handed, not the first that stands.
        self.assertEqual(fault(Book(ODD, ()), handed, ("@", "@", "f", "y", "y")), ("handed", "x", 0))
        self.assertEqual(fault(Book(ODD, ()), (("y", 0), ("x", 0), handed[2]), ("@", "@", "f", "y", "y")), ("handed", "y", 2))

    def test_handed_and_taken_elsewhere(self):
        handed = (("x", 0),)
        self.assertIsNone(fault(Book(ONCE, ()), handed, ("@", ("x", 0), "x", "x")))
        self.assertEqual(fault(Book(ONCE, ()), handed, (("x", 0), "x")), ("handed", "x", 0))
        self.assertEqual(fault(Book(FREE, ()), (("x", 1),), ("@", ("x", 0), "x", "x")), ("kind", 0))
        self.assertIsNone(fault(Book(FREE, ()), handed, (("x", 1), "x")))
        self.assertEqual(kind_of(Book(FREE, ()), handed, (("x", 1), "x")), (1, 1))
        # A tool's name, taken: the take counts.
        self.assertEqual(kind_of(Book(FREE, (("x", 3),)), (), (("x", 0), ("y", 0), "x")), (0, (0, 0)))

    def test_count(self):
        self.assertEqual(fault(Book(ONCE, (("one", 0),)), (), (("x", 0), "one")), ("count", 0, 0))
        self.assertIsNone(fault(Book(LOAN, (("one", 0),)), (), (("x", 0), "one")))
        self.assertEqual(fault(Book(DUTY, (("one", 0),)), (), (("x", 0), ("y", 0), "one")), ("count", 0, 0))
        self.assertEqual(fault(Book(ONCE, ()), (), (("x", 0), ("x", 0), "x")), ("count", 0, 0))
        uses = ("@", "@", "f")
        tools = (("f", (0, (0, 0))),)
        three = uses + ("x",) + uses + ("x", "x")
        for lot, told in [(ODD, None), (LOAN, ("count", 0, 3)), (Lot("more", (3,)), ("count", 0, 3)), (Lot("more", (2, 5)), None)]:
            self.assertEqual(fault(Book(lot, tools), (), (("x", 0),) + three), told)
        # The first take, not the first that ends.
        program = (("x", 0), ("y", 0)) + uses + ("x",) + uses + ("y", "y")
        self.assertEqual(fault(Book(ODD, tools), (), program), ("count", 1, 2))
        program = (("y", 0), ("x", 0)) + uses + ("y",) + uses + ("x", "y")
        self.assertEqual(fault(Book(ODD, tools), (), program), ("count", 0, 2))

    def test_raw_lots(self):
        raw = RawLot((False, True, True), (False,))
        self.assertIsNone(fault(Book(raw, ()), (("f", (0, (0, 1))),), (("x", 0), "@", "@", "f", "x", "x")))
        tools = (("f", (0, (0, 0))),)
        program = (("x", 0), "@", "@", "f", "x", "@", "@", "f", "x", "x")
        self.assertEqual(fault(Book(raw, tools), (), program), ("count", 0, 3))

    def test_the_order_of_the_four(self):
        book, handed = Book(ONCE, (("one", 0), ("f", (0, 1)))), (("h", 0),)
        # All four are wrong; each in turn is set right.
        program = ("@", ("x", 0), "@", "one", "one", "y")
        self.assertEqual(fault(book, handed, program), ("open", 5))
        program = ("@", ("x", 0), "@", "one", "one", "one")
        self.assertEqual(fault(book, handed, program), ("kind", 2))
        program = ("@", ("x", 0), "@", "f", "one", "one")
        self.assertEqual(fault(book, handed, program), ("handed", "h", 0))
        self.assertEqual(fault(book, (), program), ("count", 1, 0))
        self.assertIsNone(fault(Book(LOAN, book.tools), handed, program))

    def test_made_programs(self):
        handed = tuple(reference.NAMED.items())
        many = {None: 0}
        for program, kind in reference.some_programs(400, 11):
            self.assertIsNone(fault(Book(FREE, ()), handed, program))
            self.assertEqual(kind_of(Book(FREE, ()), handed, program), kind)
            found = counts(program)
            for lot in (ONCE, LOAN, ODD, DUTY):
                rows = [("handed", name, found.get(name, 0)) for name, _ in handed]
                rows += [("count", place, found[place]) for place, word in enumerate(program) if isinstance(word, tuple)]
                wrong = [row for row in rows if not lot.has(row[2])] + [None]
                self.assertEqual(fault(Book(lot, ()), handed, program), wrong[0])
                self.assertEqual(fault(Book(lot, handed), (), program), ([row for row in wrong if not row or row[0] == "count"])[0])
                many[wrong[0] and wrong[0][0]] = many.get(wrong[0] and wrong[0][0], 0) + 1
        self.assertEqual(set(many), {None, "handed", "count"})


def any_program(chance, words):
    """The words of a program of any kind or none."""
    if words <= 1:
        return (chance.choice(("a", "b", "x", "y")),)
    if chance.random() < 0.4:
        return ((chance.choice(("a", "b", "x")), chance.choice((0, 1, (0, 0), (0, 1), (1, 0), ((0, 0), 0)))),) + any_program(chance, words - 1)
    first = chance.randrange(1, words)
    return ("@",) + any_program(chance, first) + any_program(chance, words - 1 - first)


class SlowJudge:
    """The faults of a program, each told by its words in 2.3."""

    def __init__(self, program, named):
        self.program, self.named = program, named

    def end(self, place):
        if self.program[place] == "@":
            return self.end(self.end(place + 1))
        return self.end(place + 1) if isinstance(self.program[place], tuple) else place + 1

    def taker(self, place):
        takes = [at for at in range(place) if isinstance(self.program[at], tuple) and place < self.end(at)]
        return ([None] + [at for at in takes if self.program[at][0] == self.program[place]])[-1]

    def names(self):
        return [place for place, word in enumerate(self.program) if isinstance(word, str) and word != "@"]

    def kind(self, place):
        word = self.program[place]
        if word == "@":
            user, handed = self.kind(place + 1), self.kind(self.end(place + 1))
            fits = user is not None and handed is not None and isinstance(user, tuple) and user[0] == handed
            return user[1] if fits else None
        if isinstance(word, tuple):
            body = self.kind(place + 1)
            return None if body is None else (word[1], body)
        return self.named[word] if self.taker(place) is None else self.program[self.taker(place)][1]

    def fault(self, lot, handed):
        strangers = [place for place in self.names() if self.taker(place) is None and self.program[place] not in self.named]
        if strangers:
            return ("open", strangers[0])
        uses = [place for place, word in enumerate(self.program) if word == "@"]
        wrong = [place for place in uses if self.kind(place) is None]
        wrong = [place for place in wrong if self.kind(place + 1) is not None and self.kind(self.end(place + 1)) is not None]
        if wrong:
            return ("kind", wrong[0])
        for name, _ in handed:
            times = len([place for place in self.names() if self.taker(place) is None and self.program[place] == name])
            if not lot.has(times):
                return ("handed", name, times)
        for at, word in enumerate(self.program):
            times = len([place for place in self.names() if self.taker(place) == at])
            if isinstance(word, tuple) and not lot.has(times):
                return ("count", at, times)
        return None


class SlowJudgeTest(unittest.TestCase):

    def test_any_programs(self):
        chance = random.Random(9)
        told = {}
        lots = [ONCE, LOAN, FREE, ODD, DUTY, RawLot((False, True, True), (False,)), RawLot((True, True, False), (True, False))]
        kinds = (0, 1, (0, 1), (0, 0), (1, (0, 0)), ((0, 0), 0))
        for _ in range(6000):
            program = any_program(chance, chance.randrange(1, 12))
            tools = tuple((name, chance.choice(kinds)) for name in "ab")
            handed = tuple((name, chance.choice(kinds)) for name in chance.choice(("x", "xy", "yx", "y")))
            lot = chance.choice(lots)
            found = fault(Book(lot, tools), handed, program)
            self.assertEqual(found, SlowJudge(program, dict(tools + handed)).fault(lot, handed), program)
            told[found and found[0]] = told.get(found and found[0], 0) + 1
        self.assertGreater(min(told.values()), 10)
        self.assertEqual(len(told), 5)


class ArgumentsTest(unittest.TestCase):

    def test_no_handed(self):
        book = Book(FREE, (("one", 0), ("two", 1)))
        rows = no_named(6) + [(("one", 0),), (("x", 0), ("two", 1)), (("x", 0), ("one", 5))]
        for thing in rows:
            for call in (fault, kind_of):
                for program in (("x",), ("one",), None, ()):
                    with self.assertRaises(NoHanded) as caught:
                        call(book, thing, program)
                    self.assertIs(caught.exception.__class__, NoHanded)

    def test_six_and_seven(self):
        handed = tuple((name, 0) for name in "abcdef")
        self.assertIsNone(fault(Book(FREE, ()), handed, ("a",)))
        self.assertRaises(NoHanded, fault, Book(FREE, ()), handed + (("g", 0),), ("a",))

    def test_no_program(self):
        for thing in no_programs():
            for call in (fault, kind_of):
                with self.assertRaises(NoProgram) as caught:
                    call(Book(FREE, ()), (), thing)
                self.assertIs(caught.exception.__class__, NoProgram)

    def test_faulty(self):
        book = Book(ODD, (("one", 0), ("f", (0, (0, 0)))))
        for program in [("x",), ("@", "one", "one"), (("x", 0), "one"), (("x", 0), "@", "@", "f", "x", "x"), ("@", ("x", 0), "one", "one")]:
            with self.assertRaises(Faulty) as caught:
                kind_of(book, (), program)
            self.assertEqual(caught.exception.fault, fault(book, (), program))
            self.assertIsNotNone(caught.exception.fault)
        with self.assertRaises(Faulty) as caught:
            kind_of(book, (("x", 0),), ("one",))
        self.assertEqual(caught.exception.fault, ("handed", "x", 0))


class GreatProgramsTest(unittest.TestCase):

    def test_many_takes_within_one_another(self):
        book = Book(FREE, (("one", 0),))
        for many in (399, 5000):
            program = (("x", (1, 0)),) * many + ("one",)
            self.assertIsNone(fault(book, (), program))
            self.assertEqual(lefts(kind_of(book, (), program)), ((1, 0),) * many)
            # The kinds are too deep to be held against each other with calls.
            wide = ("@", ("y", built(((1, 0),) * many, 0)), "y") + program
            self.assertIsNone(fault(book, (), wide))
            wide = ("@", ("y", built(((1, 0),) * many, 1)), "y") + program
            self.assertEqual(fault(book, (), wide), ("kind", 0))

    def test_many_uses_within_one_another(self):
        for many in (199, 2500):
            book = Book(FREE, (("f", (0, 0)), ("x", 0), ("g", built((0,) * many, 1))))
            self.assertEqual(kind_of(book, (), ("@", "f") * many + ("x",)), 0)
            self.assertEqual(kind_of(book, (), ("@",) * many + ("g",) + ("x",) * many), 1)
            self.assertEqual(fault(book, (), ("@",) * (many + 1) + ("g",) + ("x",) * (many + 1)), ("kind", 0))
            self.assertEqual(fault(book, (), ("@", "f") * many + ("@", "x", "x")), ("kind", 2 * many))

    def test_kinds_deep_in_the_left(self):
        kind = nested(1500, lambda core: built((core,), 0), 3)
        same = nested(1500, lambda core: built((core,), 0), 3)
        other = nested(1500, lambda core: built((core,), 0), 4)
        book = Book(ONCE, ())
        self.assertIsNone(fault(book, (("f", (kind, 0)), ("x", same)), ("@", "f", "x")))
        self.assertEqual(fault(book, (("f", (kind, 0)), ("x", other)), ("@", "f", "x")), ("kind", 0))


if __name__ == "__main__":
    unittest.main()
