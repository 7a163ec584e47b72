"""The document's examples."""

import unittest

from usecounts.bags import things
from usecounts.finding import found
from usecounts.houses import House, is_against, stands_with
from usecounts.judging import Book, fault
from usecounts.library import Library
from usecounts.lots import Lot, RawLot, holds, missing, told_lot
from usecounts.machine import Run, outcome
from usecounts.numbers import counter, parting
from usecounts.plains import many_plain
from usecounts.stepping import stepped, steps
from usecounts.texts import kind_text, program_text

ODD, DUTY = Lot("more", (2,)), Lot("more", (1,))
K = ((0, (0, 1)), (0, 1))


class ExamplesTest(unittest.TestCase):

    def test_e01(self):
        found = (holds(ODD, 3), holds(ODD, 2), missing(DUTY), missing(Lot("more", (2, 3))), Lot("more", (4, 2)) == ODD)
        self.assertEqual(found, (True, False, (), (2,), True))

    def test_e02(self):
        self.assertEqual(told_lot(RawLot((False, True), (True,))), Lot("more", (1,)))
        self.assertIsNone(told_lot(RawLot((False, True, True), (False,))))

    def test_e03(self):
        found = fault(Book(ODD, ()), (), (("f", (0, (0, 1))), ("x", 0), "@", "@", "f", "x", "x"))
        self.assertEqual(found, ("count", 1, 2))

    def test_e04(self):
        self.assertEqual(steps(("@", ("x", 0), "x", "y")), (0,))
        self.assertEqual(stepped(("@", ("x", 0), "x", "y"), 0), ("y",))

    def test_e05(self):
        book = Book(DUTY, (("two", (0, (0, 0))), ("one", 0)))
        program = ("@", ("x", 0), "@", "@", "two", "x", "x", "one")
        self.assertEqual(outcome(book, program), ("two", "one", "one"))
        run = Run(book, program)
        while run.outcome() is None:
            run.move()
        self.assertEqual((run.moves(), run.tokens()), (9, (2, 1, 1)))

    def test_e06(self):
        self.assertEqual(things(Book(ODD, ()), K), [0, (0, (0, 1))])

    def test_e07(self):
        house = House(ODD, ((0, 1), (1, 0)), {0: (1,), 1: (0,)})
        self.assertEqual(stands_with(house, (0, (0, 1))), (0,))
        self.assertIs(is_against(Book(ODD, ()), K, house), True)

    def test_e08(self):
        self.assertEqual(found(Book(DUTY, ()), K), ("made", (("a", (0, (0, 1))), ("b", 0), "@", "@", "a", "b", "b")))

    def test_e09(self):
        self.assertEqual(parting(DUTY, ODD), 2)
        self.assertEqual(counter(1), (("a", (0, 1)), ("b", 0), "@", "a", "b"))

    def test_e10(self):
        self.assertEqual(many_plain(Book(Lot("free", ()), ()), (0, (0, 0)), 1), 2)

    def test_e11(self):
        self.assertEqual(program_text(counter(1)), "[a:a > b] [b:a] (a b)")
        self.assertEqual(kind_text(K), "(a > a > b) > a > b")

    def test_e12(self):
        library = Library(DUTY)
        library.tool("one", 0)
        library.define("pair", ("@", "@", "two", "one", "one"))
        library.tool("two", (0, (0, 0)))
        self.assertEqual((library.kind("pair"), library.changed(), library.judged()), (0, ["pair", "two"], ["pair"]))
        self.assertEqual(library.outcome("pair"), ("two", "one", "one"))


if __name__ == "__main__":
    unittest.main()
