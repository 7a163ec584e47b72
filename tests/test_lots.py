"""1.1: lots, and what 0.2, 0.3 and 0.4 say of them."""

import itertools
import unittest

from usecounts.errors import BadLot, NoNumber
from usecounts.lots import Lot, RawLot, around, common, holds, is_within, missing
from tests.odd_things import odd_integers, odd_things

ONCE, LOAN, FREE = Lot("once", ()), Lot("loan", ()), Lot("free", ())


def sums_below(makers, bound):
    """The flags of 0 to bound less 1: whether they are sums of makers."""
    flags = [True] + [False] * (bound - 1)
    for total in range(1, bound):
        flags[total] = any(maker <= total and flags[total - maker] for maker in makers)
    return flags


def held_below(lot, bound):
    """What a lot of this word and these makers holds below bound, as the document says it."""
    flags = {
        "once": [at == 1 for at in range(bound)],
        "loan": [at < 2 for at in range(bound)],
        "free": [True] * bound,
        "more": [False] + sums_below(lot.makers, bound - 1),
    }
    return flags[lot.word]


def told_below(lot, bound):
    return [holds(lot, at) for at in range(bound)]


def least_makers(makers):
    """Those that are no sum of lesser ones."""
    kept = []
    for maker in sorted(makers):
        if not sums_below(kept, maker + 1)[maker]:
            kept.append(maker)
    return tuple(kept)


def small_mores():
    rows = [(a,) for a in range(1, 13)]
    rows += [(a, b) for a, b in itertools.combinations(range(1, 13), 2)]
    rows += [(4, 6, 9), (5, 7, 11), (6, 10, 12), (8, 9, 10, 11), (9, 10, 11, 12), (6, 9, 11), (7, 8, 12), (12, 10, 8, 9)]
    return [Lot("more", row) for row in rows]


class MadeTest(unittest.TestCase):

    def bad(self, part, word, makers):
        with self.assertRaises(BadLot) as caught:
            Lot(word, makers)
        self.assertEqual(caught.exception.part, part)

    def test_words(self):
        for word in ("once", "loan", "free"):
            lot = Lot(word, ())
            self.assertEqual((lot.word, lot.makers), (word, ()))
        self.assertEqual(Lot("more", (5,)).word, "more")

    def test_wrong_words_come_first(self):
        for thing in [*odd_things(), *odd_integers(), 0, 1, "Once", "many", "once ", "onc", "lent"]:
            for makers in ((), (1,), [1], None, (0,), (True,)):
                self.bad("word", thing, makers)

    def test_makers_of_words_without(self):
        for word in ("once", "loan", "free"):
            for thing in [*odd_things(), 0, 1, (1,), (1, 2), [], "", b"", {}]:
                if thing != ():
                    self.bad("makers", word, thing)

    def test_wrong_makers_of_more(self):
        rows = [(), (0,), (13,), (-1,), (1, 0), (1, 13), (1, 2, 3, 4, 5), (1,) * 5, (True,), (False,), (2, True)]
        rows += [[1], [2, 3], ("1",), (b"1",), (None,), ((1,),), ([1],), (1, (2,)), 1, 2, "1", b"\x01", (10 ** 29,)]
        for row in [*rows, *odd_things(), *odd_integers()]:
            self.bad("makers", "more", row)

    def test_makers_are_those_that_are_no_sum_of_lesser_ones(self):
        for makers, kept in [
            ((4, 2), (2,)), ((2,), (2,)), ((2, 2), (2,)), ((12, 1), (1,)), ((5, 3, 8), (3, 5)), ((12, 11, 10, 9), (9, 10, 11, 12)),
            ((7, 7, 7, 7), (7,)), ((3, 2, 7, 4), (2, 3)), ((12,), (12,)), ((1,), (1,)), ((6, 4, 10, 9), (4, 6, 9)),
        ]:
            self.assertEqual(Lot("more", makers).makers, kept)
            self.assertIs(Lot("more", makers).makers.__class__, tuple)

    def test_all_makers(self):
        for many in (1, 2, 3, 4):
            for row in itertools.combinations(range(1, 13), many):
                self.assertEqual(Lot("more", row[::-1]).makers, least_makers(row))

    def test_equality(self):
        lots = [ONCE, LOAN, FREE, *small_mores()]
        for lot, other in itertools.product(lots, lots):
            same = held_below(lot, 150) == held_below(other, 150)
            self.assertIs(lot == other, same)
            self.assertIs(lot != other, not same)
        self.assertEqual(Lot("more", (3, 5)), Lot("more", (8, 5, 3, 3)))

    def test_equal_to_nothing_of_another_class(self):
        for lot in (ONCE, LOAN, FREE, Lot("more", (1,))):
            for thing in odd_things():
                if not isinstance(thing, Lot):
                    self.assertIs(lot == thing, False)
                    self.assertIs(lot != thing, True)
        self.assertFalse(FREE == RawLot((), (True,)))


class HoldsTest(unittest.TestCase):

    def test_small_numbers(self):
        self.assertEqual(told_below(ONCE, 4), [False, True, False, False])
        self.assertEqual(told_below(LOAN, 4), [True, True, False, False])
        self.assertEqual(told_below(FREE, 4), [True, True, True, True])
        self.assertEqual(told_below(Lot("more", (3,)), 8), [False, True, False, False, True, False, False, True])

    def test_all_makers(self):
        for many in (1, 2, 3, 4):
            for row in itertools.combinations(range(1, 13), many):
                lot = Lot("more", row)
                self.assertEqual(told_below(lot, 160), [False] + sums_below(row, 159))

    def test_to_10000(self):
        self.assertIs(holds(FREE, 10000), True)
        self.assertIs(holds(LOAN, 10000), False)
        self.assertIs(holds(ONCE, 10000), False)
        self.assertIs(holds(Lot("more", (2,)), 10000), False)
        self.assertIs(holds(Lot("more", (2,)), 9999), True)
        self.assertIs(holds(Lot("more", (11,)), 10000), True)
        self.assertIs(holds(Lot("more", (9, 12)), 10000), True)
        self.assertIs(holds(Lot("more", (9, 12)), 4), False)

    def test_no_number(self):
        for lot in (ONCE, LOAN, FREE, Lot("more", (2, 3))):
            for thing in [*odd_things(), *odd_integers()]:
                if thing.__class__ is not int or not 0 <= thing <= 10000:
                    self.assertRaises(NoNumber, holds, lot, thing)


class MissingTest(unittest.TestCase):

    def test_words(self):
        self.assertIsNone(missing(ONCE))
        self.assertIsNone(missing(LOAN))
        self.assertEqual(missing(FREE), ())

    def test_more(self):
        self.assertEqual(missing(Lot("more", (1,))), ())
        self.assertEqual(missing(Lot("more", (2, 3))), (2,))
        self.assertEqual(missing(Lot("more", (3, 5))), (2, 3, 5, 8))
        self.assertIsNone(missing(Lot("more", (2,))))
        self.assertIsNone(missing(Lot("more", (6, 4, 10))))
        self.assertEqual(missing(Lot("more", (6, 10, 5))), missing(Lot("more", (5, 6))))

    def test_all_pairs_and_triples(self):
        for row in itertools.combinations(range(1, 13), 3):
            flags = [True] + sums_below(row, 299)
            lacking = tuple(at for at in range(1, 300) if not flags[at])
            endless = not all(flags[200:])
            self.assertEqual(missing(Lot("more", row)), None if endless else lacking)

    def test_of_results(self):
        lot = common(Lot("more", (2, 3)), Lot("more", (3, 5)))
        self.assertEqual(missing(lot), (2, 3, 5, 8))
        lot = common(Lot("more", (11, 12)), Lot("more", (10, 11)))
        flags = [a and b for a, b in zip(sums_below((11, 12), 400), sums_below((10, 11), 400))]
        self.assertEqual(missing(lot), tuple(at + 1 for at in range(400) if not flags[at]))


class TwoLotsTest(unittest.TestCase):

    def both(self, lot, other, bound):
        for result in (common(lot, other), common(other, lot)):
            self.assertEqual(held_below(result, bound), [a and b for a, b in zip(held_below(lot, bound), held_below(other, bound))])
            self.assertEqual(told_below(result, min(bound, 200)), held_below(result, min(bound, 200)))
            self.assertEqual(result.makers, least_makers(result.makers))
        self.assertEqual(common(lot, other), common(other, lot))

    def test_common(self):
        lots = [ONCE, LOAN, FREE, *small_mores()[::3]]
        for lot, other in itertools.combinations_with_replacement(lots, 2):
            self.both(lot, other, 600)

    def test_common_by_words(self):
        more = Lot("more", (2, 5))
        self.assertEqual(common(LOAN, more), ONCE)
        self.assertEqual(common(more, LOAN), ONCE)
        self.assertEqual(common(ONCE, more), ONCE)
        self.assertEqual(common(LOAN, FREE), LOAN)
        self.assertEqual(common(FREE, more), more)
        self.assertEqual(common(LOAN, LOAN), LOAN)
        self.assertEqual(common(LOAN, ONCE), ONCE)
        self.assertEqual(common(FREE, ONCE), ONCE)
        self.assertEqual(common(FREE, FREE), FREE)

    def test_common_has_greater_and_more_makers(self):
        lot = common(Lot("more", (11,)), Lot("more", (12,)))
        self.assertEqual((lot.word, lot.makers), ("more", (132,)))
        lot = common(Lot("more", (5, 6)), Lot("more", (4, 7)))
        self.assertGreater(len(lot.makers), 4)
        self.assertEqual(lot, common(lot, Lot("more", (1,))))
        self.assertEqual(common(Lot("more", (1,)), lot).makers, lot.makers)

    def test_around_by_words(self):
        more = Lot("more", (2, 5))
        for lot, other, result in [
            (ONCE, ONCE, ONCE), (ONCE, LOAN, LOAN), (ONCE, FREE, FREE), (ONCE, more, more), (LOAN, LOAN, LOAN),
            (LOAN, FREE, FREE), (LOAN, more, FREE), (FREE, FREE, FREE), (FREE, more, FREE), (more, more, more),
        ]:
            self.assertEqual(around(lot, other), result)
            self.assertEqual(around(other, lot), result)

    def test_around_of_makers(self):
        self.assertEqual(around(Lot("more", (4,)), Lot("more", (6,))), Lot("more", (4, 6)))
        self.assertEqual(around(Lot("more", (2,)), Lot("more", (4, 10))), Lot("more", (2,)))
        lot = around(Lot("more", (8, 9, 10)), Lot("more", (11, 12)))
        self.assertEqual(lot.makers, (8, 9, 10, 11, 12))
        self.assertEqual(around(lot, Lot("more", (7,))).makers, (7, 8, 9, 10, 11, 12))

    def test_around_is_the_least(self):
        lots = [ONCE, LOAN, FREE, *small_mores()[::4]]
        for lot, other in itertools.product(lots, lots):
            result = around(lot, other)
            self.assertTrue(is_within(lot, result) and is_within(other, result))
            for third in lots:
                if is_within(lot, third) and is_within(other, third):
                    self.assertTrue(is_within(result, third))

    def test_results_again(self):
        far = common(Lot("more", (11,)), Lot("more", (12,)))
        near = common(Lot("more", (7, 10)), Lot("more", (6, 11)))
        wide = common(Lot("more", (5,)), Lot("more", (7,)))
        self.both(near, wide, 1500)
        self.both(near, far, 1500)
        self.both(far, wide, 10000)
        self.assertEqual(around(far, wide).makers, (35, 132))
        mixed = around(far, common(Lot("more", (9,)), Lot("more", (7,))))
        self.assertEqual(mixed.makers, (63, 132))
        self.both(around(far, wide), mixed, 9500)
        self.both(around(far, wide), near, 6000)

    def test_steps_of_results_again(self):
        lot = Lot("more", (1,))
        for maker in (8, 9, 5, 7, 11):
            lot = common(lot, Lot("more", (maker,)))
        self.assertEqual(lot.makers, (27720,))
        self.assertIsNone(missing(lot))
        self.assertEqual(told_below(lot, 3), [False, True, False])
        self.assertEqual(around(lot, Lot("more", (8,))), Lot("more", (8,)))

    def test_is_within(self):
        lots = [ONCE, LOAN, FREE, *small_mores()[::2]]
        for lot, other in itertools.product(lots, lots):
            inside = all(b or not a for a, b in zip(held_below(lot, 150), held_below(other, 150)))
            self.assertIs(is_within(lot, other), inside)

    def test_is_within_of_no_lot(self):
        for lot in (ONCE, LOAN, FREE, Lot("more", (2,))):
            for thing in [*odd_things(), *odd_integers(), "once", RawLot((), (True,))]:
                if not isinstance(thing, Lot):
                    self.assertIs(is_within(lot, thing), False)
        self.assertIs(is_within(ONCE, Lot), False)

    def test_nothing_is_changed(self):
        lot, other = Lot("more", (4, 6)), Lot("more", (5, 7))
        common(lot, other), around(lot, other), missing(lot), is_within(lot, other)
        self.assertEqual((lot.word, lot.makers, other.makers), ("more", (4, 6), (5, 7)))
        self.assertEqual(told_below(lot, 150), held_below(lot, 150))
        self.assertEqual(common(lot, other), common(lot, other))


if __name__ == "__main__":
    unittest.main()
