"""7.2: counters, and what parts lots."""

import itertools
import random
import unittest

from usecounts.errors import NoNumber
from usecounts.finding import found
from usecounts.houses import is_against
from usecounts.judging import Book, fault, kind_of
from usecounts.kinds import built
from usecounts.lots import Lot, RawLot, around, common, told_lot
from usecounts.numbers import counter, parting
from usecounts.programs import standard
from usecounts.stepping import is_plain
from tests.odd_things import odd_integers, odd_things
from tests.test_tables import some_kind

ONCE, LOAN, FREE = Lot("once", ()), Lot("loan", ()), Lot("free", ())
ODD, DUTY, THIRD = Lot("more", (2,)), Lot("more", (1,)), Lot("more", (3,))
LOTS = [ONCE, LOAN, FREE, ODD, DUTY, THIRD, Lot("more", (2, 3)), Lot("more", (4, 6)), Lot("more", (5, 7)), Lot("more", (2, 5)), Lot("more", (12,))]


class CounterTest(unittest.TestCase):

    def test_ordinary(self):
        self.assertEqual(counter(0), (("a", 1), ("b", 0), "a"))
        self.assertEqual(counter(1), (("a", (0, 1)), ("b", 0), "@", "a", "b"))
        self.assertEqual(counter(2), (("a", (0, (0, 1))), ("b", 0), "@", "@", "a", "b", "b"))

    def test_right_just_where_the_number_is_held(self):
        for number in range(21):
            program = counter(number)
            kind = (built((0,) * number, 1), (0, 1))
            self.assertEqual(standard(program), program)
            self.assertEqual(kind_of(Book(FREE, ()), (), program), kind)
            for lot in LOTS + [RawLot((False, True, True), (False, True)), RawLot((), (True,)), common(ODD, THIRD)]:
                told = fault(Book(lot, ()), (), program)
                self.assertEqual(told, None if lot.has(number) else ("count", 1, number))
                if told is None:
                    self.assertTrue(is_plain(Book(lot, ()), (), program))

    def test_no_number(self):
        for thing in [-1, 21, True, False, "1", (1,), [1], None] + odd_things() + odd_integers():
            if not (type(thing) is int and 0 <= thing <= 20):
                with self.assertRaises(NoNumber) as caught:
                    counter(thing)
                self.assertIs(caught.exception.__class__, NoNumber)


class PartingTest(unittest.TestCase):

    def slow(self, lot, other):
        rows = [number for number in range(2000) if lot.has(number) and not other.has(number)]
        return rows[0] if rows else None

    def test_ordinary(self):
        self.assertEqual(parting(DUTY, ODD), 2)
        self.assertIsNone(parting(ODD, DUTY))
        self.assertEqual(parting(FREE, LOAN), 2)
        self.assertEqual(parting(FREE, DUTY), 0)
        self.assertEqual(parting(FREE, ONCE), 0)
        self.assertEqual(parting(LOAN, ONCE), 0)
        self.assertEqual(parting(LOAN, DUTY), 0)
        self.assertIsNone(parting(LOAN, FREE))
        self.assertEqual(parting(ODD, LOAN), 3)
        self.assertEqual(parting(THIRD, ONCE), 4)
        self.assertEqual(parting(ODD, THIRD), 3)
        self.assertEqual(parting(Lot("more", (2, 3)), ODD), 4)

    def test_all_small_lots(self):
        lots = [ONCE, LOAN, FREE] + [Lot("more", makers) for many in (1, 2) for makers in itertools.combinations(range(1, 13), many)]
        for lot, other in itertools.product(lots, repeat=2):
            self.assertEqual(parting(lot, other), self.slow(lot, other))

    def test_lots_that_were_returned(self):
        chance = random.Random(73)
        lots = [Lot("more", tuple(chance.sample(range(1, 13), chance.randrange(1, 4)))) for _ in range(12)]
        lots += [common(one, other) for one, other in itertools.combinations(lots, 2)][:20]
        lots += [around(one, other) for one, other in itertools.combinations(lots, 2)][::30] + [FREE, LOAN, ONCE]
        lots += [told_lot(RawLot((False, True), (False, False, True))), told_lot(RawLot((), (True,)))]
        for lot, other in itertools.product(lots, repeat=2):
            self.assertEqual(parting(lot, other), self.slow(lot, other))

    def test_seventh_fact(self):
        for lot, other in itertools.product(LOTS, repeat=2):
            number = parting(lot, other)
            if number is not None:
                kind = (built((0,) * number, 1), (0, 1))
                self.assertIsNone(fault(Book(lot, ()), (), counter(number)))
                word, house = found(Book(other, ()), kind)
                self.assertEqual(word, "not")
                self.assertTrue(is_against(Book(other, ()), kind, house))
        chance = random.Random(74)
        kinds = [some_kind(chance, chance.randrange(2, 6)) for _ in range(60)]
        lots = [ONCE, LOAN, FREE, ODD, DUTY]
        made = {}
        for at, lot in enumerate(lots):
            for kind in kinds:
                made[at, kind] = found(Book(lot, ()), kind)[0] == "made"
        for (at, lot), (by, other) in itertools.product(enumerate(lots), repeat=2):
            if parting(lot, other) is None:
                for kind in kinds:
                    self.assertTrue(made[by, kind] or not made[at, kind])


if __name__ == "__main__":
    unittest.main()
