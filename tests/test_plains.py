"""8.1: plain programs, counted and told."""

import itertools
import random
import unittest

from usecounts.errors import NoKind, NoNumber, NotLet, TooMany
from usecounts.judging import Book, fault, kind_of
from usecounts.kinds import built, end, lefts
from usecounts.lots import Lot, RawLot, common
from usecounts.plains import many_plain, plain_programs
from usecounts.programs import standard
from usecounts.stepping import is_plain
from usecounts.texts import program_text
from tests.odd_things import nested, odd_integers, odd_things
from tests.test_kinds import no_kinds
from tests.test_tables import some_kind

ONCE, LOAN, FREE = Lot("once", ()), Lot("loan", ()), Lot("free", ())
ODD, DUTY, THIRD = Lot("more", (2,)), Lot("more", (1,)), Lot("more", (3,))
LOTS = [ONCE, LOAN, FREE, ODD, DUTY, THIRD, Lot("more", (2, 3))]
K = ((0, (0, 1)), (0, 1))


def parted(many, places):
    """The rows of so many numbers from 1 on with this sum."""
    if places == 0:
        return [()] if many == 0 else []
    return [(first,) + others for first in range(1, many + 1) for others in parted(many - first, places - 1)]


def slow_plains(named, kind, names, level=0):
    """All plain programs of a kind with so many names, whatever the counts, of names with kinds."""
    takes = tuple(("t" + "abcdefghijklmnopqrstuvwxyz"[level + at // 26] + "abcdefghijklmnopqrstuvwxyz"[at % 26], left) for at, left in enumerate(lefts(kind)))
    inside = named + takes
    found = []
    for name, told in inside:
        if end(told) == end(kind):
            for row in parted(names - 1, len(lefts(told))):
                ways = [slow_plains(inside, left, many, level + 1) for left, many in zip(lefts(told), row)]
                for way in itertools.product(*ways):
                    found.append(takes + ("@",) * len(row) + (name,) + tuple(word for part in way for word in part))
    return found


def told_plains(book, kind, names):
    return sorted((standard(program) for program in slow_plains(book.tools, kind, names) if fault(book, (), program) is None), key=program_text)


class PlainsTest(unittest.TestCase):

    def test_ordinary(self):
        self.assertEqual([many_plain(Book(FREE, ()), (0, (0, 0)), names) for names in range(4)], [0, 2, 0, 0])
        self.assertEqual(plain_programs(Book(FREE, ()), (0, (0, 0)), 1), [(("a", 0), ("b", 0), "a"), (("a", 0), ("b", 0), "b")])
        self.assertEqual(plain_programs(Book(DUTY, ()), K, 3), [(("a", (0, (0, 1))), ("b", 0), "@", "@", "a", "b", "b")])
        self.assertEqual(plain_programs(Book(ODD, ()), K, 3), [])
        # The numerals: x is handed to f again and again.
        for names in range(9):
            self.assertEqual(many_plain(Book(FREE, ()), ((0, 0), (0, 0)), names), int(names > 0))
            self.assertEqual(many_plain(Book(ODD, ()), ((0, 0), (0, 0)), names), int(names in (2, 4, 6, 8)))
        book = Book(LOAN, (("two", (0, (0, 0))), ("one", 0)))
        self.assertEqual([many_plain(book, 0, names) for names in range(9)], [0, 1, 0, 1, 0, 2, 0, 5, 0])
        self.assertEqual(plain_programs(book, 0, 3), [("@", "@", "two", "one", "one")])

    def test_names_that_are_tools(self):
        book = Book(FREE, (("a", (0, 1)), ("c", 0)))
        self.assertEqual(plain_programs(book, (0, 1), 2), [(("b", 0), "@", "a", "b"), (("b", 0), "@", "a", "c")])
        self.assertEqual(plain_programs(Book(FREE, (("a", 0), ("b", 0))), (0, 0), 1), [(("a", 0), "a"), (("a", 0), "b"), (("b", 0), "a")])

    def test_against_programs_counted_one_by_one(self):
        chance = random.Random(91)
        some = {}
        for _ in range(220):
            lot = chance.choice(LOTS)
            names = [] if lot == ONCE else chance.sample(["a", "f", "g"], chance.randrange(3))
            tools = tuple((name, chance.choice([0, 1, (0, 0), (0, (0, 1)), ((0, 1), 0), ((0, 0), 1), some_kind(chance, 3)])) for name in names)
            kind = chance.choice([0, (0, 0), K, ((0, 0), (0, 0)), (((0, 1), 1), 1), some_kind(chance, 4), some_kind(chance, 5)])
            book = Book(lot, tools)
            for many in range(6):
                told = told_plains(book, kind, many)
                self.assertEqual(many_plain(book, kind, many), len(told))
                if len(told) <= 500:
                    self.assertEqual(plain_programs(book, kind, many), told)
                some[lot.word] = some.get(lot.word, 0) + len(told)
        self.assertGreater(min(some.values()), 10)

    def test_up_to_eight_names(self):
        rows = [(LOAN, (("g", (0, (0, 0))),), (0, (0, (0, 0)))), (ODD, (("g", ((0, 0), 0)),), K), (DUTY, (), ((0, (0, 1)), ((1, 0), (0, 1)))),
                (FREE, (), ((((0, 0), 0), 0), 0)), (ONCE, (), ((0, (0, (0, 1))), (0, (0, (0, 1))))), (Lot("more", (2, 3)), (), ((0, 0), (0, 0)))]
        for lot, tools, kind in rows:
            book = Book(lot, tools)
            for many in range(9):
                told = told_plains(book, kind, many)
                self.assertEqual(many_plain(book, kind, many), len(told))
                if len(told) <= 500:
                    self.assertEqual(plain_programs(book, kind, many), told)

    def test_what_is_told(self):
        chance = random.Random(92)
        for _ in range(120):
            lot = chance.choice(LOTS)
            tools = () if lot == ONCE else (("f", some_kind(chance, chance.randrange(1, 5))), ("b", some_kind(chance, 2)))
            book, kind = Book(lot, tools), some_kind(chance, chance.randrange(2, 8))
            for many in range(9):
                number = many_plain(book, kind, many)
                if number > 500:
                    with self.assertRaises(TooMany) as caught:
                        plain_programs(book, kind, many)
                    self.assertEqual(caught.exception.most, 500)
                    continue
                found = plain_programs(book, kind, many)
                self.assertEqual(len(found), number)
                self.assertEqual(len(set(found)), number)
                self.assertEqual([program_text(program) for program in found], sorted(program_text(program) for program in found))
                for program in found:
                    self.assertEqual(standard(program), program)
                    self.assertTrue(is_plain(book, (), program))
                    self.assertEqual(kind_of(book, (), program), kind)
                    self.assertEqual(sum(isinstance(word, str) and word != "@" for word in program), many)

    def test_just_500(self):
        # As many names are taken, and one of them is told.
        self.assertEqual(many_plain(Book(FREE, ()), built((0,) * 501, 0), 1), 501)
        with self.assertRaises(TooMany) as caught:
            plain_programs(Book(FREE, ()), built((0,) * 501, 0), 1)
        self.assertIs(caught.exception.__class__, TooMany)
        self.assertEqual(caught.exception.most, 500)
        # A tool that is handed x's and y's: 500 of the ways are 5 ** 3 * 4.
        tools = (("f", (0, (1, (2, (3, 4))))),)
        kind = built((0,) * 5 + (1,) * 5 + (2,) * 5 + (3,) * 4, 4)
        self.assertEqual(many_plain(Book(FREE, tools), kind, 5), 500)
        self.assertEqual(len(plain_programs(Book(FREE, tools), kind, 5)), 500)
        kind = built((0,) * 3 + (1,) * 167, 2)
        self.assertEqual(many_plain(Book(FREE, (("f", (0, (1, 2))),)), kind, 3), 501)
        self.assertRaises(TooMany, plain_programs, Book(FREE, (("f", (0, (1, 2))),)), kind, 3)

    def test_many_hundred_thousands(self):
        book = Book(FREE, (("two", (0, (0, 0))), ("one", 0)))
        # Trees with 4 leaves, each of which is one of nine names; an even number of names makes none.
        kind = built((0,) * 8, 0)
        self.assertEqual([many_plain(book, kind, names) for names in range(9)], [0, 9, 0, 81, 0, 2 * 729, 0, 5 * 6561, 0])
        self.assertEqual(many_plain(book, built((0,) * 29, 0), 7), 5 * 30 ** 4)
        many = built((0,) * 9 + ((0, (0, 0)),) * 10 + ((0, 0),) * 5, 0)
        self.assertEqual(many_plain(book, many, 3), 11 * 10 ** 2 + 5 * 5 * 10)
        self.assertGreater(many_plain(book, many, 8), 10 ** 7)
        # Names that each stand once, in whatever order.
        self.assertEqual(many_plain(Book(ONCE, ()), built((0,) * 7 + (built((0,) * 7, 0),), 0), 8), 5040)
        self.assertEqual(many_plain(Book(LOAN, ()), built((0,) * 12 + (built((0,) * 7, 1),), 1), 8), 12 * 11 * 10 * 9 * 8 * 7 * 6)

    def test_great_kinds(self):
        self.assertEqual(many_plain(Book(FREE, ()), built((0,) * 1000, 0), 1), 1000)
        self.assertEqual(many_plain(Book(ODD, ()), built((0,) * 1000, 0), 1), 0)
        kind = nested(500, lambda core: built((core,), 0), 0)
        self.assertEqual(many_plain(Book(FREE, ()), kind, 1), 0)
        self.assertEqual(many_plain(Book(FREE, ()), built((1,) * 400, 0), 8), 0)
        self.assertEqual(len(plain_programs(Book(FREE, ()), built((0,) * 100, 0), 1)[7]), 101)

    def test_great_makers(self):
        lot = common(Lot("more", (7,)), Lot("more", (5,)))
        self.assertEqual([many_plain(Book(lot, ()), ((0, 0), (0, 0)), names) for names in range(9)], [0, 0, 1, 0, 0, 0, 0, 0, 0])
        lot = Lot("more", (7,))
        self.assertEqual([many_plain(Book(lot, (("f", (0, 0)),)), (0, 0), names) for names in range(9)], [0, 1, 1, 1, 1, 1, 1, 1, 1])

    def test_errors(self):
        for call in (many_plain, plain_programs):
            for book in (Book(RawLot((False, True), (True,)), ()), Book(ONCE, (("f", 0),))):
                for kind, names in [(0, 1), (26, 1), (0, 9), (None, None)]:
                    with self.assertRaises(NotLet) as caught:
                        call(book, kind, names)
                    self.assertIs(caught.exception.__class__, NotLet)
            for thing in no_kinds():
                for names in (1, 9):
                    with self.assertRaises(NoKind) as caught:
                        call(Book(FREE, ()), thing, names)
                    self.assertIs(caught.exception.__class__, NoKind)
            for thing in [-1, 9, True, False, "1", (1,), [1], None] + odd_things() + odd_integers():
                for kind in (0, (0, 0)):
                    with self.assertRaises(NoNumber) as caught:
                        call(Book(FREE, ()), kind, thing)
                    self.assertIs(caught.exception.__class__, NoNumber)

            self.assertRaises(NoNumber, call, Book(FREE, ()), built((0,) * 501, 0), 9)

    def test_new_lists(self):
        book = Book(FREE, ())
        found = plain_programs(book, (0, (0, 0)), 1)
        found.clear()
        self.assertEqual(len(plain_programs(book, (0, (0, 0)), 1)), 2)


if __name__ == "__main__":
    unittest.main()
