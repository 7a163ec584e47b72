"""The document's examples."""

import unittest

from usecounts.judging import Book, fault
from usecounts.lots import Lot, RawLot, holds, missing, told_lot
from usecounts.stepping import stepped, steps

ODD, DUTY = Lot("more", (2,)), Lot("more", (1,))


class ExamplesTest(unittest.TestCase):

    def test_e01(self):
        found = (holds(ODD, 3), holds(ODD, 2), missing(DUTY), missing(Lot("more", (2, 3))), Lot("more", (4, 2)) == ODD)
        self.assertEqual(found, (True, False, (), (2,), True))

    def test_e02(self):
        self.assertEqual(told_lot(RawLot((False, True), (True,))), Lot("more", (1,)))
        self.assertIsNone(told_lot(RawLot((False, True, True), (False,))))

    def test_e03(self):
        found = fault(Book(ODD, ()), (), (("f", (0, (0, 1))), ("x", 0), "@", "@", "f", "x", "x"))
        self.assertEqual(found, ("count", 1, 2))

    def test_e04(self):
        self.assertEqual(steps(("@", ("x", 0), "x", "y")), (0,))
        self.assertEqual(stepped(("@", ("x", 0), "x", "y"), 0), ("y",))


if __name__ == "__main__":
    unittest.main()
