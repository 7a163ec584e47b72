"""6.1 and 6.2: houses, what stands in them have, what they are against, and lean ones."""

import itertools
import random
import unittest

from usecounts.errors import BadHouse, NoKind, NotLet
from usecounts.houses import House, is_against, lean, stands_with
from usecounts.judging import Book, fault, kind_of
from usecounts.kinds import built
from usecounts.lots import Lot, RawLot, around, common
from usecounts.tables import bag_house
from tests import reference
from tests.odd_things import nested, odd_integers, odd_things
from tests.test_kinds import no_kinds, small_kinds

ONCE, LOAN, FREE = Lot("once", ()), Lot("loan", ()), Lot("free", ())
ODD, DUTY, THIRD = Lot("more", (2,)), Lot("more", (1,)), Lot("more", (3,))
LOTS = [ONCE, LOAN, FREE, ODD, DUTY, THIRD, Lot("more", (2, 3)), Lot("more", (4, 6)), common(ODD, Lot("more", (11,)))]
K = ((0, (0, 1)), (0, 1))


def table(many, join):
    return tuple(tuple(join(u, v) for v in range(many)) for u in range(many))


def ring(many):
    """Numbers round about."""
    return table(many, lambda u, v: (u + v) % many)


def ladder(many):
    """Numbers up to a last one."""
    return table(many, lambda u, v: min(u + v, many - 1))


def counted(tail, many):
    """Numbers up to a last row that goes round about."""
    return table(tail + many, lambda u, v: u + v if u + v < tail else tail + (u + v - tail) % many)


def greater(many):
    return table(many, max)


def paired(first, second):
    """Pairs of stands of two joinings."""
    many = len(second)
    size = len(first) * many
    return table(size, lambda u, v: first[u // many][v // many] * many + second[u % many][v % many])


def shuffled(joining, chance):
    """The same with its stands, but nothing, in another order."""
    order = list(range(1, len(joining)))
    chance.shuffle(order)
    new = [0] + order
    old = {stand: at for at, stand in enumerate(new)}
    return table(len(joining), lambda u, v: old[joining[new[u]][new[v]]])


def some_joinings(chance):
    rows = [counted(2, 3), counted(3, 4), counted(1, 5), paired(counted(2, 2), ring(2)), ring(1), ring(2), ring(3), ring(6), ladder(2), ladder(4), ladder(5), greater(3), greater(6), paired(ring(2), ladder(3)),
            paired(ring(2), ring(2)), paired(greater(2), ring(3)), paired(paired(ring(2), greater(2)), ladder(3))]
    return rows + [shuffled(joining, chance) for joining in rows]


def times(joining, stand, many):
    found = 0
    for _ in range(many):
        found = joining[found][stand]
    return found


def held(lot, joining):
    """The numbers that the lot holds, as many as matter for so few stands."""
    return [number for number in range(4 * len(joining) + 40) if lot.has(number)]


def is_laid(lot, joining, letters):
    many = len(joining)
    for has in letters.values():
        for v in range(many):
            falls = {times(joining, v, number) for number in held(lot, joining)}
            for u in range(many):
                if joining[u][v] not in has and any(joining[u][fall] in has for fall in falls):
                    return False
    return True


def closed(lot, joining, letters):
    """The letters, and what the lot lets fall to them."""
    found = {letter: set(has) for letter, has in letters.items()}
    many = len(joining)
    falls = [[times(joining, v, number) for number in held(lot, joining)] for v in range(many)]
    for has in found.values():
        size = -1
        while len(has) > size:
            size = len(has)
            has.update(joining[u][v] for u in range(many) for v in range(many) if any(joining[u][fall] in has for fall in falls[v]))
    return {letter: tuple(sorted(has)) for letter, has in found.items()}


def some_houses(many, seed):
    """Houses of all lots, with letters of chance that are closed by the lot."""
    chance = random.Random(seed)
    joinings = some_joinings(chance)
    found = []
    while len(found) < many:
        lot, joining = chance.choice(LOTS), chance.choice(joinings)
        letters = {letter: [u for u in range(len(joining)) if chance.random() < 0.3] for letter in chance.sample(range(3), 2)}
        found.append(House(lot, joining, closed(lot, joining, letters)))
    return found


def has_kind(house, kind):
    """The stands that have a kind, told by calls of its own."""
    if not isinstance(kind, tuple):
        return set(house.letters.get(kind, ()))
    left, right = has_kind(house, kind[0]), has_kind(house, kind[1])
    return {u for u, row in enumerate(house.joining) if all(row[v] in right for v in left)}


class HouseTest(unittest.TestCase):

    def refused(self, part, lot, joining, letters):
        with self.assertRaises(BadHouse) as caught:
            House(lot, joining, letters)
        self.assertIs(caught.exception.__class__, BadHouse)
        self.assertEqual(caught.exception.part, part)

    def test_attributes(self):
        letters = {25: (0,), 0: (1,), 3: ()}
        house = House(ODD, ring(2), letters)
        self.assertEqual((house.lot, house.joining, house.letters), (ODD, ((0, 1), (1, 0)), {0: (1,), 25: (0,)}))
        letters[0] = (0, 1)
        letters[7] = (0,)
        self.assertEqual(house.letters, {0: (1,), 25: (0,)})
        house.letters.clear()
        house.letters[5] = (1,)
        self.assertEqual(house.letters, {0: (1,), 25: (0,)})
        self.assertIsNot(house.letters, house.letters)
        self.assertEqual(House(ODD, ring(2), {3: ()}).letters, {})

    def test_equal(self):
        house = House(ODD, ring(2), {0: (1,), 1: (0,), 4: ()})
        self.assertTrue(house == House(Lot("more", (4, 2)), ring(2), {1: (0,), 0: (1,)}))
        self.assertFalse(house != House(Lot("more", (4, 2)), ring(2), {1: (0,), 0: (1,)}))
        self.assertTrue(House(THIRD, ring(2), {}) != House(ODD, ring(2), {}))
        self.assertTrue(House(ODD, ladder(2), {}) != House(ODD, ring(2), {}))
        self.assertTrue(House(ODD, ring(2), {}) == House(ODD, ring(2), {5: ()}))
        for other in (House(THIRD, ring(2), {}), House(ODD, ring(2), {0: (1,)}), House(ODD, ladder(2), {0: (0, 1), 1: (0, 1)}),
                      House(ODD, ring(2), {0: (1,), 1: (0, 1)}), House(ODD, ring(2), {0: (1,), 2: (0,)}), House(ODD, ring(1), {0: (0,)})):
            self.assertTrue(house != other)
            self.assertFalse(house == other)
        for thing in odd_things() + [ODD, ring(2), {}]:
            if not isinstance(thing, House):
                self.assertFalse(house == thing)
                self.assertTrue(house != thing)

    def test_sizes(self):
        for many in (1, 2, 200):
            for joining in (ring(many), ladder(many), greater(many)):
                for lot in (LOAN, FREE, ODD) if many < 200 or joining == ladder(many) else (ONCE,):
                    self.assertEqual(House(lot, joining, {0: tuple(range(many)), 1: ()}).joining, joining)
        self.refused("joining", FREE, ring(201), {})
        self.refused("joining", FREE, (), {})
        self.refused("joining", FREE, ((),), {})

    def test_joinings(self):
        chance = random.Random(61)
        for joining in some_joinings(chance):
            for lot in LOTS:
                self.assertEqual(House(lot, joining, {}).joining, joining)
            self.refused("joining", ODD, joining + (joining[-1],), {})
            self.refused("joining", ODD, tuple(row + (0,) for row in joining), {})
            self.refused("joining", ODD, list(joining), {})
            self.refused("joining", ODD, tuple(map(list, joining)), {})
            if len(joining) > 1:
                self.refused("joining", ODD, joining[:-1], {})
                self.refused("joining", ODD, tuple(row[:-1] for row in joining), {})
                self.refused("joining", ODD, joining[:-1] + (joining[-1][:-1],), {})
                self.refused("joining", ODD, table(len(joining), lambda u, v: (joining[u][v] + 1) % len(joining)), {})

    def test_one_entry_another_one(self):
        chance = random.Random(62)
        for joining in some_joinings(chance):
            many = len(joining)
            for u, v in itertools.product(range(many), repeat=2):
                for other in [-1, many, 10 ** 29, None, True, False, "1", (0,), [0]] + chance.sample(range(many), min(3, many)):
                    rows = [list(row) for row in joining]
                    rows[u][v] = other
                    once = tuple(map(tuple, rows))
                    rows[v][u] = other
                    both = tuple(map(tuple, rows))
                    for changed in (once, both):
                        if is_joining(changed):
                            self.assertEqual(House(ONCE, changed, {}).joining, changed)
                        else:
                            self.refused("joining", ONCE, changed, {})

    def test_all_joinings_of_three(self):
        many = 0
        for row in itertools.product(range(3), repeat=4):
            joining = ((0, 1, 2), (1,) + row[:2], (2,) + row[2:])
            if is_joining(joining):
                many += 1
                self.assertEqual(House(LOAN, joining, {}).joining, joining)
            else:
                self.refused("joining", LOAN, joining, {})
        self.assertGreater(many, 5)
        for row in itertools.product(range(2), repeat=4):
            joining = (row[:2], row[2:])
            if row in ((0, 1, 1, 0), (0, 1, 1, 1)):
                House(LOAN, joining, {})
            else:
                self.refused("joining", LOAN, joining, {})

    def test_one_entry_of_many(self):
        joining = [list(row) for row in ladder(200)]
        joining[100][100] = 198
        self.refused("joining", FREE, tuple(map(tuple, joining)), {})

    def test_lot_first(self):
        wrong = [RawLot((), (True,)), RawLot((False,), (True,)), None, "free", ("free", ()), Lot, [FREE], Book(FREE, ())]
        for thing in wrong + odd_things() + odd_integers():
            if not isinstance(thing, Lot):
                for joining, letters in ((ring(2), {}), (None, None), (ring(2), {26: ()})):
                    self.refused("lot", thing, joining, letters)

    def test_joining_ahead_of_letters(self):
        for thing in odd_things() + odd_integers() + [[[0]], ([0],), ((1,),), ((True,),), ((False,),), ((0,), (0,))]:
            for letters in ({}, None, {26: ()}, {0: (5,)}):
                self.refused("joining", FREE, thing, letters)

    def test_letters(self):
        joining = ring(3)
        wrong = [{26: (0,)}, {-1: ()}, {"a": (0,)}, {(0,): (0,)}, {None: ()}, {0: [0]}, {0: (3,)}, {0: (-1,)}, {0: (1, 0)}, {0: (1, 1)},
                 {0: (0, 0, 1)}, {0: (True,)}, {0: (False, 1)}, {0: ("0",)}, {0: 0}, {0: None}, {0: {0: 1}}, {0: (0,), 1: (2, 1)}, {0: ((0,),)},
                 {10 ** 29: ()}, {b"": ()}, {0: (0, None)}, {0: "012"}, {0: range(2)}, {0: ([], [])}, {nested(9, lambda core: (core,), 0): ()}]
        for thing in wrong + [thing for thing in odd_things() if not isinstance(thing, dict)] + odd_integers():
            self.refused("letters", FREE, joining, thing)
        # Letters are looked at ahead of what the lot lets fall.
        self.refused("letters", FREE, ring(2), {0: (1,), 1: (2,)})
        self.refused("letters", FREE, ring(2), {0: (1,), 26: ()})
        self.assertEqual(House(ONCE, joining, {25: (0, 2), 0: (1,)}).letters, {0: (1,), 25: (0, 2)})

    def test_laid(self):
        self.refused("laid", FREE, ring(2), {0: (1,)})
        self.refused("laid", FREE, ring(2), {0: (0,)})
        self.refused("laid", LOAN, ring(2), {0: (0,)})
        self.refused("laid", DUTY, ring(2), {0: (0,)})
        self.refused("laid", FREE, ring(3), {0: (0, 1, 2), 5: (2,)})
        self.assertEqual(House(ONCE, ring(2), {0: (0,)}).letters, {0: (0,)})
        self.assertEqual(House(ODD, ring(2), {0: (0,)}).letters, {0: (0,)})
        self.assertEqual(House(LOAN, ladder(3), {0: (1, 2)}).letters, {0: (1, 2)})
        self.refused("laid", FREE, ladder(3), {0: (2,)})
        self.refused("laid", THIRD, ladder(3), {0: (2,)})
        self.assertEqual(House(THIRD, ring(3), {0: (2,)}).letters, {0: (2,)})
        self.refused("laid", ODD, ring(3), {0: (2,)})

    def test_laid_as_told(self):
        chance = random.Random(63)
        many = {True: 0, False: 0}
        for joining in some_joinings(chance):
            for lot in LOTS:
                for _ in range(6):
                    letters = {chance.randrange(26): tuple(u for u in range(len(joining)) if chance.random() < 0.5)}
                    if chance.random() < 0.7:
                        letters = closed(lot, joining, letters)
                        letter = min(letters)
                        if chance.random() < 0.5 and letters[letter]:
                            at = chance.randrange(len(letters[letter]))
                            letters[letter] = letters[letter][:at] + letters[letter][at + 1:]
                    right = is_laid(lot, joining, letters)
                    many[right] += 1
                    if right:
                        House(lot, joining, letters)
                    else:
                        self.refused("laid", lot, joining, letters)
        self.assertGreater(min(many.values()), 100)

    def test_great_makers(self):
        lot = common(Lot("more", (11,)), common(Lot("more", (12,)), Lot("more", (5, 7))))
        self.assertEqual(lot.makers, (132,))
        self.assertEqual(House(lot, ring(4), {0: (1,)}).letters, {0: (1,)})
        self.assertEqual(House(lot, ring(12), {0: (1, 5)}).letters, {0: (1, 5)})
        self.refused("laid", lot, ring(5), {0: (1,)})
        # 133 times 1 is 1 round about 4, behind 3 that do not come again: 5.
        self.refused("laid", lot, counted(3, 4), {0: (5,)})
        self.assertEqual(House(lot, counted(3, 4), {0: (1, 5)}).letters, {0: (1, 5)})
        self.refused("laid", lot, counted(3, 5), {0: (5,)})
        self.refused("laid", lot, ladder(4), {0: (3,)})


def is_joining(rows):
    many = range(len(rows))
    if any(item.__class__ is not int or item not in many for row in rows for item in row):
        return False
    if any(rows[0][v] != v for v in many) or any(rows[u][v] != rows[v][u] for u in many for v in many):
        return False
    return all(rows[rows[u][v]][w] == rows[u][rows[v][w]] for u in many for v in many for w in many)


class StandsWithTest(unittest.TestCase):

    def test_ordinary(self):
        house = House(ODD, ring(2), {0: (1,), 1: (0,)})
        self.assertEqual([stands_with(house, kind) for kind in (0, 1, 2)], [(1,), (0,), ()])
        self.assertEqual(stands_with(house, (0, 0)), (0,))
        self.assertEqual(stands_with(house, (0, 1)), (1,))
        self.assertEqual(stands_with(house, (0, (0, 1))), (0,))
        self.assertEqual(stands_with(house, K), (1,))
        # Nothing has the letter c: all stands have what turns it into anything.
        self.assertEqual(stands_with(house, (2, 0)), (0, 1))
        self.assertEqual(stands_with(house, (0, 2)), ())
        self.assertEqual(stands_with(house, ((0, 2), 2)), (0, 1))

    def test_against_calls_of_its_own(self):
        kinds = small_kinds(2) + [K, ((0, 1), (2, 0)), (((0, 1), 1), 2), ((1, 0), ((0, 1), 1))]
        for house in some_houses(60, 64):
            for kind in kinds:
                self.assertEqual(stands_with(house, kind), tuple(sorted(has_kind(house, kind))))

    def test_great_kinds(self):
        house = House(ODD, ring(2), {0: (1,), 1: (0,)})
        self.assertEqual(stands_with(house, built((0,) * 5000, 0)), (1,))
        self.assertEqual(stands_with(house, built((0,) * 5001, 0)), (0,))
        self.assertEqual(stands_with(house, built((0,) * 5000, 1)), (0,))
        kind = nested(2000, lambda core: built((core,), 0), 0)
        self.assertEqual(stands_with(house, kind), (1,))
        large = House(FREE, greater(100), {0: tuple(range(100))})
        self.assertEqual(stands_with(large, kind), tuple(range(100)))

    def test_no_kind(self):
        house = House(FREE, ladder(3), {0: (0, 1, 2)})
        for thing in no_kinds():
            with self.assertRaises(NoKind) as caught:
                stands_with(house, thing)
            self.assertIs(caught.exception.__class__, NoKind)

    def test_fourth_fact(self):
        # Names stand so often as the program tells, and whichever stands have their kinds.
        named = {"z": 0, "w": 1, "g": (0, (0, 0)), "h": ((0, 1), 0), "k": (0, 1)}
        chance = random.Random(65)
        programs = reference.some_programs(150, 66, named)
        many = 0
        for house in some_houses(80, 67):
            for tools in ((), (("k", (0, 1)),), (("g", (0, (0, 0))), ("z", 0)), (("h", ((0, 1), 0)),)):
                if not all(0 in has_kind(house, kind) for _, kind in tools):
                    continue
                handed = tuple((name, kind) for name, kind in named.items() if name not in dict(tools))
                has = {name: sorted(has_kind(house, kind)) for name, kind in handed}
                for program, _ in programs:
                    used = tuple((name, kind) for name, kind in handed if fault_free(house.lot, tools, handed, program, name))
                    if fault(Book(house.lot, tools), used, program) is not None or not all(has[name] for name, _ in used):
                        continue
                    told = reference.term(program)
                    at = 0
                    for name, _ in used:
                        stand = chance.choice(has[name])
                        at = house.joining[at][times(house.joining, stand, open_count(told, name))]
                    kind = kind_of(Book(house.lot, tools), used, program)
                    self.assertIn(at, has_kind(house, kind))
                    many += 1
        self.assertGreater(many, 1000)


def open_count(found, name):
    if found[0] == "open":
        return int(found[1] == name)
    return sum(open_count(inner, name) for inner in found[1:] if isinstance(inner, tuple) and inner and inner[0] in ("open", "own", "use", "take"))


def fault_free(lot, tools, handed, program, name):
    """Whether a name has to be handed: it is open there, or may stand nowhere."""
    return open_count(reference.term(program), name) > 0 or lot.has(0)


class IsAgainstTest(unittest.TestCase):

    def setUp(self):
        self.house = House(ODD, ring(2), {0: (1,), 1: (0,)})

    def test_ordinary(self):
        self.assertIs(is_against(Book(ODD, ()), K, self.house), True)
        self.assertIs(is_against(Book(Lot("more", (6, 4, 2)), ()), K, self.house), True)
        self.assertIs(is_against(Book(ODD, ()), (0, 0), self.house), False)
        self.assertIs(is_against(Book(ODD, ()), 0, self.house), True)
        self.assertIs(is_against(Book(ODD, ()), 1, self.house), False)

    def test_another_lot(self):
        for lot in (ONCE, LOAN, FREE, DUTY, THIRD, around(ODD, DUTY), common(ODD, THIRD)):
            self.assertIs(is_against(Book(lot, ()), K, self.house), False)
        self.assertIs(is_against(Book(common(ODD, DUTY), ()), K, self.house), True)

    def test_tools(self):
        for tools, told in [((("f", 1),), True), ((("f", 0),), False), ((("f", (0, 0)),), True), ((("f", (0, 0)), ("g", 1)), True),
                            ((("f", (0, 0)), ("g", (0, 1))), False), ((("f", (0, (0, 1))),), True), ((("f", (5, 0)),), True), ((("f", 5),), False)]:
            self.assertIs(is_against(Book(ODD, tools), K, self.house), told)
            self.assertIs(is_against(Book(ODD, tools), (0, 0), self.house), False)

    def test_things(self):
        free = House(FREE, ring(1), {})
        for thing in odd_things() + odd_integers() + [ring(2), {0: (1,)}, (ODD, ring(2), {0: (1,), 1: (0,)}), [self.house], ("not", self.house), ODD]:
            self.assertIs(is_against(Book(ODD, ()), K, thing), False)
            self.assertIs(is_against(Book(LOAN, ()), 0, thing), False)
        self.assertIs(is_against(Book(FREE, ()), 0, free), True)

    def test_not_let_ahead_of_no_kind(self):
        for book in (Book(RawLot((False, True), (True,)), ()), Book(RawLot((), (True,)), (("f", 0),)), Book(ONCE, (("f", 0),))):
            for kind in (0, K, 26, None, [0]):
                for thing in (self.house, None):
                    with self.assertRaises(NotLet) as caught:
                        is_against(book, kind, thing)
                    self.assertIs(caught.exception.__class__, NotLet)
        for thing in no_kinds():
            with self.assertRaises(NoKind) as caught:
                is_against(Book(ODD, ()), thing, None)
            self.assertIs(caught.exception.__class__, NoKind)


class LeanTest(unittest.TestCase):

    def test_ordinary(self):
        self.assertEqual(lean(House(FREE, ring(3), {})), House(FREE, ((0,),), {}))
        self.assertEqual(lean(House(ODD, ring(2), {0: (1,), 1: (0,)})), House(ODD, ring(2), {0: (1,), 1: (0,)}))
        self.assertEqual(lean(House(ODD, ring(2), {0: (0, 1)})), House(ODD, ring(1), {0: (0,)}))
        self.assertEqual(lean(House(ODD, ring(6), {0: (1, 3, 5)})), House(ODD, ring(2), {0: (1,)}))
        self.assertEqual(lean(House(LOAN, ladder(6), {0: (2, 3, 4, 5)})), House(LOAN, ladder(3), {0: (2,)}))
        self.assertEqual(lean(House(ONCE, ladder(6), {0: (2,)})), House(ONCE, ladder(4), {0: (2,)}))

    def test_named_by_the_least_in_their_order(self):
        # 0 and 4, 1 and 5, 2 and 6, 3 and 7 act alike, in an order of their own.
        order = [0, 3, 2, 1, 6, 5, 4, 7]
        joining = table(8, lambda u, v: order.index((order[u] + order[v]) % 8))
        house = House(ONCE, joining, {0: tuple(sorted(order.index(u) for u in (1, 5))), 2: tuple(sorted(order.index(u) for u in (0, 4)))})
        # Their least ones are 0 (0), 1 (3), 2 (2), 3 (1).
        named = [0, 3, 2, 1]
        told = table(4, lambda u, v: named.index((named[u] + named[v]) % 4))
        self.assertEqual(lean(house), House(ONCE, told, {0: (3,), 2: (0,)}))

    def test_as_told(self):
        kinds = small_kinds(2)
        kinds = [kind for kind in kinds if kind != 25] + [K, ((0, 1), 2), ((0, 1), (1, 0)), (((0, 1), 1), 0), (1, (2, (0, 1)))]
        for house in some_houses(80, 68):
            many = len(house.joining)
            letters = [frozenset(letter for letter, has in house.letters.items() if u in has) for u in range(many)]
            acts = [tuple(letters[house.joining[u][v]] for v in range(many)) for u in range(many)]
            kept = [u for u in range(many) if acts[u] not in acts[:u]]
            number = [[acts[least] for least in kept].index(acts[u]) for u in range(many)]
            found = lean(house)
            self.assertEqual(found.lot, house.lot)
            self.assertEqual(found.joining, tuple(tuple(number[house.joining[u][v]] for v in kept) for u in kept))
            self.assertEqual(found.letters, {letter: tuple(n for n, u in enumerate(kept) if u in has) for letter, has in house.letters.items()})
            self.assertEqual(lean(found), found)
            # The sixth fact.
            for kind in kinds:
                self.assertEqual(0 in stands_with(found, kind), 0 in stands_with(house, kind))

    def test_of_bag_houses(self):
        for lot in (LOAN, FREE, ODD, DUTY, THIRD):
            for tools in ((), (("f", (0, 1)),), (("g", ((0, 1), 0)),)):
                house = bag_house(Book(lot, tools), K, 2)
                found = lean(house)
                self.assertLessEqual(len(found.joining), len(house.joining))
                self.assertEqual(lean(found), found)
                for kind in small_kinds(2) + [K, (0, 1), ((0, 1), 1)]:
                    self.assertEqual(0 in stands_with(found, kind), 0 in stands_with(house, kind))


if __name__ == "__main__":
    unittest.main()
