"""1.2, as far as it speaks of RawLot and told_lot."""

import itertools
import random
import unittest

from usecounts.errors import BadLot
from usecounts.lots import Lot, RawLot, common, holds, told_lot
from tests.odd_things import odd_integers, odd_things

T, F = True, False


def rows(fewest, most):
    for many in range(fewest, most + 1):
        yield from itertools.product((T, F), repeat=many)


def all_raw_lots(heads, rounds):
    """All raw lots with at most so many heads and rounds, with what they hold below 90."""
    for head in rows(0, heads):
        for turn in rows(1, rounds):
            flags = (head + turn * 90)[:90]
            if flags[1]:
                yield RawLot(head, turn), flags


def is_lot(flags):
    """Whether these flags, of numbers from 0 on, are those of a lot."""
    if flags[2:] == (F,) * 88 or all(flags):
        return True
    sums = [at - 1 for at in range(1, 45) if flags[at]]
    return not flags[0] and all(flags[a + b + 1] for a in sums for b in sums)


class RawLotTest(unittest.TestCase):

    def bad(self, part, heads, rounds):
        with self.assertRaises(BadLot) as caught:
            RawLot(heads, rounds)
        self.assertEqual(caught.exception.part, part)

    def test_sizes(self):
        for heads, rounds in [((), (T,)), ((T,) * 8, (F,)), ((F,), (T,) * 6), ((), (F, T)), ((F, T), (F,) * 6)]:
            raw = RawLot(heads, rounds)
            self.assertEqual((raw.heads, raw.rounds), (heads, rounds))

    def test_heads(self):
        for thing in [(T,) * 9, [], [T], (1,), (0, 1), (None,), "TT", (T, "T"), ((T,),), (T, 1), None, 0, True]:
            for rounds in ((T,), (), [T], None):
                self.bad("heads", thing, rounds)
        for thing in [*odd_things(), *odd_integers()]:
            if thing != ():
                self.bad("heads", thing, (F,))

    def test_rounds(self):
        for thing in [(), (T,) * 7, [T], [], (1,), (T, 0), (None,), "T", ((T,),), None, 1, True, *odd_things()]:
            self.bad("rounds", (), thing)
            self.bad("rounds", (F, F), thing)

    def test_one(self):
        for heads, rounds in [((), (F,)), ((), (T, F)), ((T,), (F,)), ((T,), (F, T)), ((T, F), (T,)), ((F,) * 8, (T,) * 6)]:
            self.bad("one", heads, rounds)

    def test_holds_by_heads_and_rounds(self):
        raw = RawLot((F, T, F), (T, F, F))
        self.assertEqual([raw.has(at) for at in range(10)], [F, T, F, T, F, F, T, F, F, T])
        for raw, flags in all_raw_lots(3, 3):
            self.assertEqual(tuple(raw.has(at) for at in range(90)), flags)

    def test_equality(self):
        raws = list(all_raw_lots(3, 4))
        for (raw, flags), (other, others) in itertools.product(raws, raws):
            self.assertIs(raw == other, flags == others)
            self.assertIs(raw != other, flags != others)

    def test_equal_though_told_unlike(self):
        self.assertEqual(RawLot((), (F, T)), RawLot((F, T, F), (T, F, T, F, T, F)))
        self.assertEqual(RawLot((), (T,)), RawLot((T,) * 8, (T,) * 6))
        self.assertEqual(RawLot((F, T), (F, T, T)), RawLot((F, T, F, T, T, F, T), (T, F, T)))
        self.assertNotEqual(RawLot((), (T,) * 5 + (F,)), RawLot((), (T,) * 4 + (F,)))
        self.assertNotEqual(RawLot((T,) * 8, (T,)), RawLot((T,) * 8, (F,)))
        self.assertNotEqual(RawLot((T,) * 8, (T, T, T, T, T, T)), RawLot((T,) * 8, (T, T, T, T, T, F)))

    def test_equal_to_nothing_of_another_class(self):
        raw = RawLot((), (T,))
        for thing in [*odd_things(), Lot("free", ())]:
            if not isinstance(thing, RawLot):
                self.assertIs(raw == thing, False)
                self.assertIs(thing == raw, False)


class ToldLotTest(unittest.TestCase):

    def test_words(self):
        for heads, rounds, word in [
            ((F, T), (F,), "once"), ((F, T, F), (F, F), "once"), ((T, T), (F,), "loan"), ((T, T, F), (F,) * 6, "loan"),
            ((), (T,), "free"), ((T, T), (T, T), "free"), ((T,) * 8, (T,), "free"),
        ]:
            self.assertEqual(told_lot(RawLot(heads, rounds)), Lot(word, ()))

    def test_more(self):
        self.assertEqual(told_lot(RawLot((F,), (T,))), Lot("more", (1,)))
        self.assertEqual(told_lot(RawLot((F,), (T, F))), Lot("more", (2,)))
        self.assertEqual(told_lot(RawLot((), (F, T))), Lot("more", (2,)))
        self.assertEqual(told_lot(RawLot((F, T, F), (T,))), Lot("more", (2, 3)))
        self.assertEqual(told_lot(RawLot((), (F, T, F, F, F, F))), Lot("more", (6,)))
        self.assertEqual(told_lot(RawLot((F,), (T, F, F, F, F))), Lot("more", (5,)))

    def test_makers_that_no_call_lets(self):
        lot = told_lot(RawLot((F, T, F, F, F, F, F, F), (T,)))
        self.assertEqual((lot.word, lot.makers), ("more", (7, 8, 9, 10, 11, 12, 13)))
        lot = told_lot(RawLot((F, T, F, F, F, F, F, F), (F, T, F, F, F, F)))
        self.assertIsNone(lot)
        lot = told_lot(RawLot((F, T, F, F, F, F, F, F), (F, T)))
        self.assertEqual(lot, common(Lot("more", (2,)), told_lot(RawLot((F, T, F, F, F, F, F, F), (T,)))))
        self.assertEqual(lot.makers, (8, 10, 12, 14))

    def test_none(self):
        for heads, rounds in [
            ((F, T, T), (F,)), ((T, T, T), (F,)), ((T, T), (F, T)), ((F, T, F, T), (F,)), ((F, T, T, T, F), (T,)),
            ((T, T, F), (T,)), ((), (T, T, F)), ((F, T, F, T, F, F), (T, F)), ((T,) * 8, (F,)),
        ]:
            self.assertIsNone(told_lot(RawLot(heads, rounds)))

    def test_all_small_ones(self):
        for raw, flags in all_raw_lots(4, 4):
            self.check(raw, flags)

    def test_some_great_ones(self):
        chance = random.Random(7)
        raws = list(all_raw_lots(8, 1)) + list(all_raw_lots(1, 6))
        for _ in range(300):
            heads = (F, T) + tuple(chance.choice((T, F)) for _ in range(chance.randint(0, 6)))
            rounds = tuple(chance.choice((T, T, F)) for _ in range(chance.randint(1, 6)))
            raws.append((RawLot(heads, rounds), (heads + rounds * 90)[:90]))
        for raw, flags in raws:
            self.check(raw, flags)

    def check(self, raw, flags):
        lot = told_lot(raw)
        self.assertEqual(lot is not None, is_lot(flags))
        if lot is not None:
            self.assertIsInstance(lot, Lot)
            self.assertEqual(tuple(holds(lot, at) for at in range(90)), flags)


if __name__ == "__main__":
    unittest.main()
