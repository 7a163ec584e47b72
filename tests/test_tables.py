"""6.3: houses of counted bags, held against a slow reckoning."""

import functools
import itertools
import random
import unittest

from usecounts.bags import things
from usecounts.errors import NoKind, NoNumber, NotLet, TooMany
from usecounts.houses import House, is_against, stands_with
from usecounts.judging import Book
from usecounts.kinds import built, end, lefts
from usecounts.lots import Lot, RawLot, common
from usecounts.tables import bag_house
from tests.odd_things import nested, odd_integers, odd_things
from tests.test_bags import stand_in
from tests.test_kinds import no_kinds

ONCE, LOAN, FREE = Lot("once", ()), Lot("loan", ()), Lot("free", ())
ODD, DUTY, THIRD = Lot("more", (2,)), Lot("more", (1,)), Lot("more", (3,))
LOTS = [LOAN, FREE, ODD, DUTY, THIRD, Lot("more", (2, 3)), Lot("more", (4, 6)), Lot("more", (6, 4, 9))]
K = ((0, (0, 1)), (0, 1))


def divisor(makers):
    return max(number for number in range(1, min(makers) + 1) if all(maker % number == 0 for maker in makers))


def counted(lot, size, number):
    if lot.word == "loan":
        return min(number, size)
    if lot.word == "free":
        return min(number, 1)
    if number < size:
        return number
    return min(least for least in range(size, number + 1) if (number - least) % divisor(lot.makers) == 0)


def counted_numbers(lot, size):
    return sorted({counted(lot, size, number) for number in range(100)})


def all_parts(book, kind):
    return list(dict.fromkeys(stand_in(kind) + [part for _, told in book.tools for part in stand_in(told)]))


def slow_table(book, kind, size):
    """The stands, as bags, how they are joined, and the least table of pairs of a stand and a part."""
    told, parts = things(book, kind), all_parts(book, kind)
    bags = sorted(itertools.product(counted_numbers(book.lot, size), repeat=len(told)))
    places = {bag: at for at, bag in enumerate(bags)}
    joining = [[places[tuple(counted(book.lot, size, a + b) for a, b in zip(bag, other))] for other in bags] for bag in bags]
    alone = {thing: places[tuple(int(other == thing) for other in told)] for thing in told}
    falls = set()
    for v in range(len(bags)):
        at = 0
        for number in range(80):
            if book.lot.has(number):
                falls |= {(joining[u][at], joining[u][v]) for u in range(len(bags))}
            at = joining[at][v]
    table = {(alone[thing], thing) for thing in told} | {(0, told_kind) for _, told_kind in book.tools}
    many = -1
    while many < len(table):
        many = len(table)
        for u, part in list(table):
            if isinstance(part, tuple):
                table |= {(joining[u][v], part[1]) for v in range(len(bags)) if (v, part[0]) in table}
        for u, part in itertools.product(range(len(bags)), parts):
            if isinstance(part, tuple) and (joining[u][alone[part[0]]], part[1]) in table:
                table.add((u, part))
        table |= {(behind, part) for ahead, behind in falls for part in parts if (ahead, part) in table}
    return bags, joining, table


def slow_house(book, kind, size):
    bags, joining, table = slow_table(book, kind, size)
    letters = [part for part in all_parts(book, kind) if not isinstance(part, tuple)]
    has = {letter: tuple(at for at in range(len(bags)) if (at, letter) in table) for letter in letters}
    return House(book.lot, tuple(map(tuple, joining)), has)


def depth(kind):
    return sum(weight(left) for left in lefts(kind))


def weight(kind):
    return 1 + max([depth(left) for left in lefts(kind)], default=0)


@functools.lru_cache(None)
def makes(handed, letter):
    """Whether names of just these kinds, each of them once, make a letter."""
    for at, kind in enumerate(handed):
        if end(kind) == letter:
            others = handed[:at] + handed[at + 1:]
            rows = lefts(kind)
            for way in itertools.product(range(len(rows)), repeat=len(others)) if rows else ([()] if not others else []):
                parted = [[other for other, to in zip(others, way) if to == place] for place in range(len(rows))]
                if all(makes(tuple(sorted(row + list(lefts(left)), key=repr)), end(left)) for row, left in zip(parted, rows)):
                    return True
    return False


def slow_once_house(kind):
    book = Book(ONCE, ())
    told, most = things(book, kind), depth(kind)
    ranges = [range(most // weight(thing) + 1) for thing in told]
    bags = [bag for bag in itertools.product(*ranges) if sum(n * weight(thing) for n, thing in zip(bag, told)) <= most]
    many = len(bags) + bool(told)

    def join(u, v):
        if u == len(bags) or v == len(bags):
            return len(bags)
        bag = tuple(a + b for a, b in zip(bags[u], bags[v]))
        return bags.index(bag) if bag in bags else len(bags)

    letters = {}
    for letter in set(part for part in all_parts(book, kind) if not isinstance(part, tuple)):
        has = [at for at, bag in enumerate(bags) if makes(tuple(sorted([t for n, t in zip(bag, told) for _ in range(n)], key=repr)), letter)]
        letters[letter] = tuple(has + list(range(len(bags), many)))
    return House(ONCE, tuple(tuple(join(u, v) for v in range(many)) for u in range(many)), letters)


def some_kind(chance, letters):
    if letters == 1:
        return chance.randrange(3)
    left = chance.randrange(1, letters)
    return (some_kind(chance, left), some_kind(chance, letters - left))


def some_tasks(many, seed):
    chance = random.Random(seed)
    for _ in range(many):
        lot = chance.choice(LOTS)
        names = chance.sample(["f", "g", "h"], chance.choice([0, 0, 1, 1, 2]))
        yield Book(lot, tuple((name, some_kind(chance, chance.randrange(1, 4))) for name in names)), some_kind(chance, chance.randrange(1, 6))


def stands_of(book, kind, size):
    if book.lot.word == "free":
        return 2 ** len(things(book, kind))
    if book.lot.word == "loan":
        return (size + 1) ** len(things(book, kind))
    return (size + divisor(book.lot.makers)) ** len(things(book, kind))


class BagHouseTest(unittest.TestCase):

    def test_ordinary(self):
        # The one thing is a; numbers of it are 0, 1, 2, 3 and then 2, 3 again.
        house = bag_house(Book(ODD, ()), (0, 0), 2)
        self.assertEqual(house, House(ODD, ((0, 1, 2, 3), (1, 2, 3, 2), (2, 3, 2, 3), (3, 2, 3, 2)), {0: (1,)}))
        house = bag_house(Book(LOAN, ()), (0, 0), 2)
        self.assertEqual(house, House(LOAN, ((0, 1, 2), (1, 2, 2), (2, 2, 2)), {0: (1, 2)}))
        house = bag_house(Book(FREE, (("f", 1),)), (0, 0), 6)
        self.assertEqual(house, House(FREE, ((0, 1), (1, 1)), {0: (1,), 1: (0, 1)}))
        self.assertEqual(bag_house(Book(LOAN, ()), 3, 6), House(LOAN, ((0,),), {}))
        self.assertEqual(bag_house(Book(LOAN, (("f", 3), ("g", 5))), 3, 1), House(LOAN, ((0,),), {3: (0,), 5: (0,)}))
        self.assertEqual(bag_house(Book(ODD, (("f", (0, 1)), ("g", 0))), 1, 1), House(ODD, ((0, 1, 2), (1, 2, 1), (2, 1, 2)), {0: (0, 1), 1: (0, 1, 2)}))

    def test_against_a_slow_reckoning(self):
        many = {}
        for book, kind in some_tasks(260, 81):
            for size in (1, 2, 3, 6):
                if stands_of(book, kind, size) <= 36:
                    self.assertEqual(bag_house(book, kind, size), slow_house(book, kind, size))
                    key = (book.lot.word, len(things(book, kind)))
                    many[key] = many.get(key, 0) + 1
        for key in itertools.product(("free", "loan", "more"), (0, 1, 2)):
            self.assertGreater(many[key], 5)
        self.assertGreater(many["free", 3], 5)
        self.assertGreater(many["loan", 3], 3)

    def test_letters_agree_with_the_table_of_all_parts(self):
        for book, kind in some_tasks(60, 82):
            for size in (1, 2):
                if stands_of(book, kind, size) <= 36:
                    bags, _, table = slow_table(book, kind, size)
                    house = bag_house(book, kind, size)
                    for part in all_parts(book, kind):
                        self.assertEqual(stands_with(house, part), tuple(at for at in range(len(bags)) if (at, part) in table))

    def test_sizes(self):
        for lot, told in [(LOAN, [2, 3, 4, 5, 6, 7]), (FREE, [2] * 6), (DUTY, [2, 3, 4, 5, 6, 7]), (ODD, [3, 4, 5, 6, 7, 8]),
                          (Lot("more", (2, 3)), [2, 3, 4, 5, 6, 7]), (Lot("more", (4, 6)), [3, 4, 5, 6, 7, 8]), (THIRD, [4, 5, 6, 7, 8, 9])]:
            self.assertEqual([len(bag_house(Book(lot, ()), (0, 1), size).joining) for size in range(1, 7)], told)

    def test_once(self):
        # The thing in it weighs more than all that stands as it is.
        heavy = ((((built((0, 0, 0, 0), 1), 1), 2), 3), 4)
        # The last one of the things weighs 2.
        kinds = [((1, ((0, 0), 0)), 2), (0, ((1, ((0, 0), 0)), 2)), (0, (0, ((1, ((0, 0), 0)), 2))), heavy, (0, heavy), ((heavy, 0), 1), heavy[0], (0, heavy[0]), (heavy[0][0], 0), 0, 25, (0, 0), (0, (0, 0)), K, ((0, 0), 0), ((0, 1), (0, 1)), ((0, (1, 2)), (0, (1, 2))), (((0, 0), 0), 0), ((0, 1), ((1, 2), (0, 2)))]
        chance = random.Random(83)
        kinds += [some_kind(chance, chance.randrange(1, 8)) for _ in range(60)]
        for kind in kinds:
            house = slow_once_house(kind)
            for size in (1, 4):
                self.assertEqual(bag_house(Book(ONCE, ()), kind, size), house)

    def test_once_the_last_stand(self):
        house = bag_house(Book(ONCE, ()), ((0, 1), (0, 1)), 3)
        # Bags of a, and of a > b, which weighs 1; the depth is 2.
        self.assertEqual(len(house.joining), 7)
        self.assertEqual(house.letters, {0: (3, 6), 1: (4, 6)})
        self.assertEqual(house.joining[-1], (6,) * 7)
        self.assertEqual(bag_house(Book(ONCE, ()), 4, 1), House(ONCE, ((0,),), {}))

    def test_once_weights(self):
        # The thing ((a > b) > b) weighs 1 and the depth of (a > b), which is 1.
        kind = (((0, 1), 1), 1)
        house = bag_house(Book(ONCE, ()), kind, 1)
        self.assertEqual(house, slow_once_house(kind))
        self.assertEqual(depth(kind), 3 - 1)

    def test_many_once(self):
        for kind in [built((0,) * 198, 0), built((0,) * 197, 1)]:
            house = bag_house(Book(ONCE, ()), kind, 1)
            self.assertEqual(len(house.joining), len(lefts(kind)) + 2)
            self.assertEqual(house.letters.get(0), (1, len(lefts(kind)) + 1))
        self.assertRaises(TooMany, bag_house, Book(ONCE, ()), built((0,) * 199, 0), 1)

    def test_too_many(self):
        def kind_with(many):
            return built(tuple(range(many)), 0)

        for lot, numbers in [(LOAN, lambda size: size + 1), (FREE, lambda size: 2), (DUTY, lambda size: size + 1), (ODD, lambda size: size + 2), (Lot("more", (11,)), lambda size: size + 11)]:
            for many in range(1, 9):
                for size in range(1, 7):
                    stands = numbers(size) ** many
                    if stands > 200:
                        with self.assertRaises(TooMany) as caught:
                            bag_house(Book(lot, ()), kind_with(many), size)
                        self.assertIs(caught.exception.__class__, TooMany)
                        self.assertEqual(caught.exception.most, 200)
                    elif stands < 70 or size > 4:
                        self.assertEqual(len(bag_house(Book(lot, ()), kind_with(many), size).joining), stands)
        self.assertRaises(TooMany, bag_house, Book(FREE, ()), built(tuple(nested(n, lambda k: (0, k), 0) for n in range(1, 30)), 0), 1)

    def test_just_200_stands(self):
        lot = common(Lot("more", (11,)), common(Lot("more", (9,)), Lot("more", (2,))))
        self.assertEqual(lot.makers, (198,))
        self.assertEqual(len(bag_house(Book(lot, ()), (0, 0), 1).joining), 199)
        self.assertEqual(len(bag_house(Book(lot, ()), (0, 0), 2).joining), 200)
        with self.assertRaises(TooMany) as caught:
            bag_house(Book(lot, ()), (0, 0), 3)
        self.assertEqual(caught.exception.most, 200)

    def test_great_makers(self):
        lot = common(Lot("more", (11,)), Lot("more", (12,)))
        self.assertEqual(lot.makers, (132,))
        house = bag_house(Book(lot, ()), (0, 0), 6)
        self.assertEqual(len(house.joining), 138)
        self.assertEqual(house.letters, {0: (1,)})
        self.assertEqual(len(bag_house(Book(common(lot, Lot("more", (5,))), ()), 0, 6).joining), 1)
        self.assertRaises(TooMany, bag_house, Book(common(lot, Lot("more", (5,))), ()), (0, 0), 1)

    def test_nearly_200_stands(self):
        self.assertEqual(len(bag_house(Book(THIRD, ()), (0, (1, (2, 0))), 2).joining), 125)
        self.assertEqual(len(bag_house(Book(ODD, (("f", ((0, 1), 1)),)), (0, (0, 0)), 6).joining), 64)
        house = bag_house(Book(THIRD, (("f", (0, (0, 1))),)), ((0, 1), 0), 6)
        self.assertEqual(len(house.joining), 81)
        self.assertEqual(len(bag_house(Book(Lot("more", (9,)), (("f", (0, 1)),)), (1, 0), 5).joining), 196)

    def test_errors(self):
        for book in (Book(RawLot((False, True), (True,)), ()), Book(ONCE, (("f", 0),))):
            for kind, size in [(0, 1), (26, 1), (0, 0), (None, None)]:
                with self.assertRaises(NotLet) as caught:
                    bag_house(book, kind, size)
                self.assertIs(caught.exception.__class__, NotLet)
        for thing in no_kinds():
            for size in (1, 0):
                with self.assertRaises(NoKind) as caught:
                    bag_house(Book(FREE, ()), thing, size)
                self.assertIs(caught.exception.__class__, NoKind)
        great = built((0, 1, 2, 3, 4, 5, 6, 7), 0)
        for thing in [0, 7, -1, True, False, "1", (1,), [1], None] + odd_things() + odd_integers():
            for book, kind in ((Book(FREE, ()), (0, 0)), (Book(FREE, ()), great), (Book(ONCE, ()), 0)):
                with self.assertRaises(NoNumber) as caught:
                    bag_house(book, kind, thing)
                self.assertIs(caught.exception.__class__, NoNumber)

    def test_against(self):
        self.assertTrue(is_against(Book(ODD, ()), K, bag_house(Book(ODD, ()), K, 1)))
        self.assertFalse(is_against(Book(DUTY, ()), K, bag_house(Book(DUTY, ()), K, 3)))


if __name__ == "__main__":
    unittest.main()
