"""5.1: tasks, parts, things and bags."""

import itertools
import unittest

from usecounts.bags import is_made_by, parts, things
from usecounts.errors import CountsError, NoBag, NoKind, NoPart, NotLet
from usecounts.judging import Book, fault, kind_of
from usecounts.kinds import built, is_kind
from usecounts.lots import Lot, RawLot
from usecounts.texts import kind_text
from tests import reference
from tests.odd_things import nested, odd_integers, odd_things
from tests.test_judging import no_named
from tests.test_kinds import no_kinds, small_kinds
from tests.test_programs import no_programs

ONCE, LOAN, FREE, ODD = Lot("once", ()), Lot("loan", ()), Lot("free", ()), Lot("more", (2,))
K = ((0, (0, 1)), (0, 1))


def stand_in(kind):
    """All kinds that stand in a kind, perhaps several times."""
    if isinstance(kind, tuple):
        return [kind] + stand_in(kind[0]) + stand_in(kind[1])
    return [kind]


class PartsTest(unittest.TestCase):

    def test_ordinary(self):
        self.assertEqual(parts(Book(ODD, ()), 3), [3])
        self.assertEqual(things(Book(ODD, ()), 3), [])
        self.assertEqual(parts(Book(ODD, ()), (1, 0)), [0, 1, (1, 0)])
        self.assertEqual(things(Book(ODD, ()), (1, 0)), [1])
        # "(" is ahead of the letters, and a text of its longer ones.
        self.assertEqual(parts(Book(ONCE, ()), K), [K, 0, (0, (0, 1)), (0, 1), 1])
        self.assertEqual(things(Book(ONCE, ()), K), [0, (0, (0, 1))])

    def test_tools(self):
        book = Book(LOAN, (("f", ((2, 3), 0)), ("g", 5), ("h", 0)))
        self.assertEqual(parts(book, (0, 1)), [((2, 3), 0), 0, (0, 1), 1, 2, (2, 3), 3, 5])
        self.assertEqual(things(book, (0, 1)), [0, 2, (2, 3)])
        self.assertEqual(parts(book, 0), [((2, 3), 0), 0, 2, (2, 3), 3, 5])
        self.assertEqual(things(book, 0), [2, (2, 3)])

    def test_any_kinds(self):
        kinds = small_kinds(3)
        for at in range(0, len(kinds), 7):
            tools = (("f", kinds[(at * 5) % len(kinds)]), ("g", kinds[(at * 11) % len(kinds)]))
            for book in (Book(ONCE, ()), Book(FREE, tools)):
                told = stand_in(kinds[at])
                for _, kind in book.tools:
                    told += stand_in(kind)
                found = parts(book, kinds[at])
                self.assertEqual(set(found), set(told))
                self.assertEqual([kind_text(kind) for kind in found], sorted({kind_text(kind) for kind in told}))
                lefts = {kind[0] for kind in told if isinstance(kind, tuple)}
                self.assertEqual(things(book, kinds[at]), [kind for kind in found if kind in lefts])

    def test_new_lists(self):
        for call in (parts, things):
            book = Book(FREE, (("f", (0, 1)),))
            told = list(call(book, K))
            call(book, K).clear()
            self.assertEqual(call(book, K), told)
            self.assertIs(told.__class__, list)

    def test_not_let_ahead_of_no_kind(self):
        tools = (("one", 0),)
        for book in (Book(RawLot((), (True,)), ()), Book(RawLot((False, True), (False,)), tools), Book(ONCE, tools)):
            for call in (parts, things):
                for thing in (0, K, None, "a", 26, True, [0, 1]):
                    with self.assertRaises(NotLet) as caught:
                        call(book, thing)
                    self.assertIs(caught.exception.__class__.__mro__[1], CountsError)
            self.assertRaises(NotLet, is_made_by, book, None, None, None, None)
        for book in (Book(ONCE, ()), Book(LOAN, tools), Book(FREE, tools), Book(ODD, tools)):
            self.assertIn(0, parts(book, 0))

    def test_no_kind(self):
        for thing in no_kinds():
            for book in (Book(ONCE, ()), Book(FREE, (("one", 0),))):
                for call in (parts, things):
                    self.assertRaises(NoKind, call, book, thing)
                self.assertRaises(NoKind, is_made_by, book, thing, None, None, None)

    def test_great_kinds(self):
        kind = built((0, 1) * 100, 2)
        self.assertIs(is_kind(kind), False)
        self.assertEqual((len(parts(Book(FREE, ()), kind)), things(Book(FREE, ()), kind)), (203, [0, 1]))
        kind = nested(300, lambda core: built((core,), 0), 0)
        self.assertEqual(len(things(Book(FREE, ()), kind)), 300)
        self.assertEqual(len(parts(Book(FREE, ()), nested(30, lambda core: (core, 0), 1))), 32)


class IsMadeByTest(unittest.TestCase):

    def setUp(self):
        # The things: a, a > a > b.
        self.book = Book(ODD, ())
        self.handed = (("f", (0, (0, 1))), ("x", 0), ("y", 0))
        self.program = ("@", "@", "f", "x", "y")

    def test_ordinary(self):
        told = (self.handed, self.program)
        self.assertIs(is_made_by(self.book, K, (2, 1), 1, told), True)
        self.assertIs(is_made_by(self.book, K, (1, 1), (0, 1), (self.handed[:2], ("@", "f", "x"))), True)
        self.assertIs(is_made_by(self.book, K, (0, 0), K, ((), (("f", (0, (0, 1))), ("x", 0), "@", "@", "f", "x", "x"))), False)
        self.assertIs(is_made_by(Book(FREE, ()), K, (0, 0), K, ((), (("f", (0, (0, 1))), ("x", 0), "@", "@", "f", "x", "x"))), True)
        self.assertIs(is_made_by(self.book, K, (1, 0), 0, ((("x", 0),), ("x",))), True)
        self.assertIs(is_made_by(self.book, K, (1, 0), 0, ((("q", 0),), ("@", ("x", 0), "x", "q"))), True)
        self.assertIs(is_made_by(self.book, K, (0, 1), (0, (0, 1)), ((("f", (0, (0, 1))),), ("f",))), True)

    def test_another_bag_or_part(self):
        told = (self.handed, self.program)
        for bag in itertools.product(range(4), repeat=2):
            for part in parts(self.book, K):
                self.assertIs(is_made_by(self.book, K, bag, part, told), bag == (2, 1) and part == 1)

    def test_what_is_handed(self):
        (f, x, y), bag = self.handed, (2, 1)
        for handed, told in [
            ((f, x, y), True), ((y, x, f), True), ((x, y), False), ((f, x), False), ((f, x, y, ("z", 0)), False), ((f, x, ("y", 1)), False),
            ((f, x, x), False), ((f, x, y, y), False), ((("f", (0, (0, 0))), x, y), False), ((f, x, y, ("z", 1)), False), ((), False),
        ]:
            self.assertIs(is_made_by(self.book, K, bag, 1, (handed, self.program)), told)

    def test_a_kind_that_is_no_thing(self):
        free = Book(FREE, ())
        program = ("@", "@", "f", "x", "y")
        self.assertIs(is_made_by(free, K, (2, 1), 1, (self.handed, program)), True)
        self.assertIs(is_made_by(free, K, (2, 1), 1, (self.handed + (("w", 1),), program)), False)
        self.assertIs(is_made_by(free, K, (2, 1), 1, (self.handed + (("w", 20),), program)), False)
        self.assertIs(is_made_by(free, K, (3, 1), 1, (self.handed + (("w", 0),), program)), True)
        self.assertIs(is_made_by(free, K, (2, 2), 1, (self.handed + (("w", 20),), program)), False)

    def test_tools(self):
        book = Book(LOAN, (("one", 0), ("g", (0, 0))))
        self.assertIs(is_made_by(book, K, (0, 1), 1, ((("f", (0, (0, 1))),), ("@", "@", "f", "one", "@", "g", "one"))), True)
        self.assertIs(is_made_by(book, K, (1, 1), 1, ((("f", (0, (0, 1))), ("one", 0)), ("@", "@", "f", "one", "one"))), False)
        self.assertIs(is_made_by(book, K, (0, 1), 1, ((("g", (0, (0, 1))),), ("@", "@", "g", "one", "one"))), False)
        self.assertIs(is_made_by(book, K, (1, 1), 1, ((("f", (0, (0, 1))), ("x", 0)), ("@", "@", "f", "one", "@", "g", "one"))), True)
        self.assertIs(is_made_by(Book(FREE, book.tools), K, (0, 0), 0, ((), ("@", "g", "@", "g", "one"))), True)

    def test_not_right(self):
        for program in [("@", "@", "f", "x", "x"), ("@", "@", "f", "x", "z"), ("@", "f", "x"), ("@", "x", "y"), (("x", 0),) + self.program]:
            self.assertIs(is_made_by(self.book, K, (2, 1), 1, (self.handed, program)), False)

    def test_more_than_six_names(self):
        names = tuple((name, 0) for name in "abcdefg")
        kind = built((0,) * 7, 0)
        uses = ("@",) * 7 + ("w",)
        book = Book(FREE, (("w", kind),))
        self.assertIs(is_made_by(book, kind, (6,), 0, (names[:6], uses + tuple("abcdeff"))), True)
        self.assertIs(is_made_by(book, kind, (7,), 0, (names, uses + tuple("abcdefg"))), False)
        self.assertIs(is_made_by(book, kind, (10 ** 29,), 0, (names, uses + tuple("abcdefg"))), False)

    def test_things_that_show_nothing(self):
        told = (self.handed, self.program)
        rows = [list(told), told + (0,), told[:1], (self.program, self.handed), self.handed, self.program, (list(self.handed), self.program), None,
                (self.handed, list(self.program)), (tuple(map(list, self.handed)), self.program), (dict(self.handed), self.program), (told,)]
        for thing in rows + odd_things() + odd_integers():
            self.assertIs(is_made_by(self.book, K, (2, 1), 1, thing), False)
        for thing in no_programs():
            self.assertIs(is_made_by(self.book, K, (2, 1), 1, (self.handed, thing)), False)
            self.assertIs(is_made_by(self.book, K, (0, 0), K, ((), thing)), False)
        for thing in no_named(6):
            self.assertIs(is_made_by(self.book, K, (2, 1), 1, (thing, self.program)), False)

    def test_no_bag_ahead_of_no_part(self):
        rows = [[2, 1], (2,), (2, 1, 0), (), (2, -1), (-1, 0), (2, True), (False, 1), ("2", 1), (2, None), (2, (1,)), ([2], 1), {0: 2, 1: 1}, 21, "21"]
        for thing in rows + odd_things() + odd_integers():
            for part in (1, None, 25):
                with self.assertRaises(NoBag) as caught:
                    is_made_by(self.book, K, thing, part, (self.handed, self.program))
                self.assertIs(caught.exception.__class__, NoBag)
        self.assertIs(is_made_by(self.book, 5, (), 5, None), False)
        self.assertRaises(NoBag, is_made_by, self.book, 5, (0,), 5, None)

    def test_no_part(self):
        rows = [2, 25, (0, 0), (1, 0), (0, K), (K, 0), None, True, False, [0, 1], "a", (0,), (0, 1, 2), ((0, (0, 1)), 0)]
        for thing in rows + no_kinds():
            with self.assertRaises(NoPart) as caught:
                is_made_by(self.book, K, (2, 1), thing, (self.handed, self.program))
            self.assertIs(caught.exception.__class__, NoPart)

    def test_made_programs(self):
        named = {"z": 0, "w": 1, "g": (0, (0, 0)), "k": (0, 1)}
        book = Book(FREE, (("g", (0, (0, 0))), ("k", (0, 1))))
        kind = (0, (1, 1))
        self.assertEqual(things(book, kind), [0, 1])
        handed = (("z", 0), ("w", 1))
        many = 0
        for program, _ in reference.some_programs(300, 71, named):
            told = kind_of(book, handed, program)
            if told in parts(book, kind):
                self.assertIsNone(fault(book, handed, program))
                self.assertIs(is_made_by(book, kind, (1, 1), told, (handed, program)), True)
                self.assertIs(is_made_by(book, kind, (1, 0), told, (handed, program)), False)
                many += 1
        self.assertGreater(many, 50)


if __name__ == "__main__":
    unittest.main()
