"""The document's examples."""

import unittest

from usecounts.lots import Lot, RawLot, holds, missing, told_lot


class ExamplesTest(unittest.TestCase):

    def test_e01(self):
        odd, duty = Lot("more", (2,)), Lot("more", (1,))
        found = (holds(odd, 3), holds(odd, 2), missing(duty), missing(Lot("more", (2, 3))), Lot("more", (4, 2)) == odd)
        self.assertEqual(found, (True, False, (), (2,), True))

    def test_e02(self):
        self.assertEqual(told_lot(RawLot((False, True), (True,))), Lot("more", (1,)))
        self.assertIsNone(told_lot(RawLot((False, True, True), (False,))))


if __name__ == "__main__":
    unittest.main()
