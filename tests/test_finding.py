"""7.1 and 7.2: what can be made, papers, and what tools are good for."""

import itertools
import random
import unittest

from usecounts.errors import NoKind, NotLet, TooMany
from usecounts.finding import found, is_equal_help, is_paper, needless
from usecounts.houses import House, is_against, lean
from usecounts.judging import Book, fault, kind_of
from usecounts.kinds import built, is_kind
from usecounts.lots import Lot, RawLot, common
from usecounts.plains import many_plain
from usecounts.programs import is_program
from usecounts.stepping import is_plain
from usecounts.tables import bag_house
from tests.odd_things import odd_integers, odd_things
from tests.test_kinds import no_kinds
from tests.test_programs import no_programs
from tests.test_tables import some_kind, stands_of

ONCE, LOAN, FREE = Lot("once", ()), Lot("loan", ()), Lot("free", ())
ODD, DUTY, THIRD = Lot("more", (2,)), Lot("more", (1,)), Lot("more", (3,))
LOTS = [ONCE, LOAN, FREE, ODD, DUTY, THIRD, Lot("more", (2, 3)), common(ODD, THIRD)]
K = ((0, (0, 1)), (0, 1))
P, Q = 0, 1


def is_passed(book, kind):
    """Whether callers pass this task."""
    if book.lot.word == "once":
        sizes = [1]
    else:
        sizes = [size for size in (1, 2, 3) if stands_of(book, kind, size) <= 200]
    if any(is_against(book, kind, bag_house(book, kind, size)) for size in sizes):
        return True
    return any(many_plain(book, kind, names) for names in range(1, 9))


def relettered_wide(kind, wide, wider):
    """The kind with another kind in the place of one that stands in it."""
    if kind == wide:
        return wider
    return (relettered_wide(kind[0], wide, wider), relettered_wide(kind[1], wide, wider)) if isinstance(kind, tuple) else kind


class FoundTest(unittest.TestCase):

    def told(self, book, kind, word=None):
        """What found tells, looked at with what stands in other modules."""
        row = found(book, kind)
        self.assertIsInstance(row, tuple)
        self.assertEqual(len(row), 2)
        if word is not None:
            self.assertEqual(row[0], word)
        if row[0] == "made":
            self.assertTrue(is_program(row[1]) or not is_kind(kind))
            self.assertLessEqual(len(row[1]), 400)
            self.assertIsNone(fault(book, (), row[1]))
            self.assertEqual(kind_of(book, (), row[1]), kind)
            self.assertTrue(is_plain(book, (), row[1]))
        else:
            self.assertEqual(row[0], "not")
            self.assertIsInstance(row[1], House)
            self.assertTrue(is_against(book, kind, row[1]))
        self.assertIs(is_paper(book, kind, row), True)
        return row

    def test_ordinary(self):
        self.assertEqual(found(Book(DUTY, ()), K), ("made", (("a", (0, (0, 1))), ("b", 0), "@", "@", "a", "b", "b")))
        self.assertEqual(found(Book(ODD, ()), K)[0], "not")
        for lot in LOTS:
            self.told(Book(lot, ()), (0, 0), "made")
            self.told(Book(lot, ()), 0, "not")
            self.told(Book(lot, ()), (0, 1), "not")
            self.told(Book(lot, ()), ((0, 1), (0, 1)), "made")
            self.told(Book(lot, ()), (((0, 1), 1), (0, 1)), "not")
            self.told(Book(lot, ()), (0, ((0, 1), 1)), "made")
            self.told(Book(lot, ()), ((0, 1), ((1, 2), (0, 2))), "made")

    def test_what_lots_let(self):
        drop, double = (0, (1, 0)), ((0, (0, 1)), (0, 1))
        triple = ((0, (0, (0, 1))), (0, 1))
        for lot, drops, doubles, triples in [(ONCE, 0, 0, 0), (LOAN, 1, 0, 0), (FREE, 1, 1, 1), (DUTY, 0, 1, 1), (ODD, 0, 0, 1), (THIRD, 0, 0, 0), (Lot("more", (2, 3)), 0, 0, 1)]:
            for kind, made in ((drop, drops), (double, doubles), (triple, triples)):
                self.told(Book(lot, ()), kind, "made" if made else "not")

    def test_tools(self):
        for lot in LOTS[1:]:
            self.told(Book(lot, (("one", 0),)), 0, "made")
            self.told(Book(lot, (("one", 0), ("f", (0, 1)))), 1, "made")
            self.told(Book(lot, (("f", (0, 1)),)), 1, "not")
            self.told(Book(lot, (("f", ((0, 0), 1)),)), 1, "made")
            self.told(Book(lot, (("a", 2), ("b", (2, (2, 3))))), (3, 3), "made")
        drop = (("k", (0, (1, 0))),)
        self.told(Book(ODD, drop), (0, (1, 0)), "made")
        self.told(Book(ODD, drop), (1, (0, 0)), "made")
        self.told(Book(ODD, drop), (0, (0, 0)), "not")

    def test_tasks_of_chance(self):
        chance = random.Random(71)
        many = {}
        for _ in range(500):
            lot = chance.choice(LOTS)
            names = [] if lot == ONCE else chance.sample(["a", "f", "g"], chance.randrange(3))
            book = Book(lot, tuple((name, some_kind(chance, chance.randrange(1, 5))) for name in names))
            kind = some_kind(chance, chance.randrange(1, 7))
            if is_passed(book, kind):
                word = self.told(book, kind)[0]
                # The fifth fact: never both.
                if word == "made":
                    for size in (1, 2):
                        if lot == ONCE or stands_of(book, kind, size) <= 100:
                            self.assertFalse(is_against(book, kind, bag_house(book, kind, size)))
                else:
                    self.assertEqual([many_plain(book, kind, names) for names in range(7)], [0] * 7)
                key = (lot.word, word, len(names) > 0)
                many[key] = many.get(key, 0) + 1
        for word in ("loan", "free", "more"):
            for key in itertools.product(("made", "not"), (True, False)):
                self.assertGreater(many[(word, *key)], 2, (word, key))
        self.assertGreater(many["once", "made", False], 2)
        self.assertGreater(many["once", "not", False], 10)

    def test_all_small_kinds(self):
        def kinds(letters):
            if letters == 1:
                return [0, 1]
            return [pair for left in range(1, letters) for pair in itertools.product(kinds(left), kinds(letters - left))]

        for lot in (ONCE, LOAN, FREE, ODD, DUTY):
            for letters in (1, 2, 3, 4):
                for kind in kinds(letters):
                    self.told(Book(lot, ()), kind)

    def test_eight_names(self):
        for lot in LOTS:
            row = self.told(Book(lot, ()), built((built((0,) * 7, 1),) + (0,) * 7, 1), "made")
            self.assertEqual(len(row[1]), 8 + 7 + 8)
        for lot in LOTS[1:]:
            tools = tuple((name, (at, at + 1)) for at, name in enumerate("abcdefg")) + (("z", 0),)
            self.assertEqual(self.told(Book(lot, tools), 7, "made")[1], ("@", "g", "@", "f", "@", "e", "@", "d", "@", "c", "@", "b", "@", "a", "z"))
        self.told(Book(ODD, (("f", built((0,) * 7, 1)),)), (0, 1), "made")
        self.told(Book(DUTY, (("f", built((0, 1, 0, 1, 0, 1, 0), 2)),)), (0, (1, 2)), "made")

    def test_few_words_are_found(self):
        # With f, that is handed 58 takes, a program has few words only where g stands in its place.
        wide = (("f", (built((0,) * 57, 0), 0)), ("g", (built((1,), 0), 0)), ("one", 2), ("h", (2, 0)))
        row = self.told(Book(FREE, wide), 0, "made")
        self.assertEqual(row[1], ("@", "h", "one"))
        rows = tuple(("g" + letter, (at, at + 1)) for at, letter in enumerate("abc"))
        row = self.told(Book(FREE, rows + (("f", (built((7,) * 50, 2), 3)), ("z", 0))), 3, "made")
        self.assertEqual(row[1], ("@", "gc", "@", "gb", "@", "ga", "z"))

    def wide_task(self, rows):
        """A kind that is made from a by a name for each row: it turns a letter behind as many takes into the next letter."""
        names = [(built((9,) * many, at), at + 1) for at, row in enumerate(rows) for many in row]
        return built(tuple(names) + (0,), len(rows))

    def test_just_400_words(self):
        # Names are taken, 7 of them are handed the next one, and each but the first takes some more.
        for many, told in ((50, 380), (52, 394), (53, 400)):
            rows = [[many, many + 20]] * 7 if many < 53 else [[54, 71], [52, 60]] + [[53, 90]] * 4 + [[50, 49, 91]]
            book, kind = Book(FREE, ()), self.wide_task(rows)
            row = self.told(book, kind, "made")
            least = sum(min(row) for row in rows)
            self.assertEqual(len(row[1]), sum(map(len, rows)) + 1 + 15 + least)
            self.assertEqual(many_plain(book, kind, 8), 2 ** 6 * (2 if many < 53 else 3))
        kind = self.wide_task([[53, 60]] * 6 + [[52, 99]])
        self.assertEqual(len(self.told(Book(FREE, ()), kind, "made")[1]), 15 + 15 + 370)
        self.assertEqual(len(self.told(Book(FREE, ()), kind, "made")[1]), 400)

    def test_few_words_with_more_names(self):
        # The way with 3 names has 401 words, and those with more names have fewer.
        book = Book(FREE, ())
        for many, names in ((388, 3), (389, 6)):
            kind = built(((built((9,) * many, 1), 3), (0, 1), (1, 2), (2, 4), (4, 5), (5, 3), 0), 3)
            row = self.told(book, kind, "made")
            self.assertEqual(sum(isinstance(word, str) and word != "@" for word in row[1]), names)
            self.assertEqual(len(row[1]), many + 7 + 5 if names == 3 else 7 + 6 + 5)

    def test_few_words_of_all_that_are_handed(self):
        # h is handed an a and a c: both with few words, or both with many, of 2 and 3 names or of 3 and 2.
        a, b, c, d, e, p = range(6)
        wide = built((9,) * 200, b)
        few, many = ((b, a), (b, d), (d, c)), ((wide, e), (e, a), (wide, c))
        for names in ((few + many), (many + few), (many[:2] + few + many[2:])):
            for head in ((a, (c, p)), (c, (a, p))):
                kind = built(names + (head, b), p)
                row = self.told(Book(FREE, ()), kind, "made")
                # That with few and many words of 2 names each has one name less.
                self.assertEqual(len(row[1]), 8 + 9 + 200)
                wider = built((9,) * 400, b)
                kind = relettered_wide(kind, wide, wider)
                self.assertEqual(len(self.told(Book(FREE, ()), kind, "made")[1]), 8 + 11)

    def test_too_great_a_house(self):
        with self.assertRaises(TooMany) as caught:
            found(Book(FREE, ()), built((0, 1, 2, 3, 4, 5, 6, 7), 8))
        self.assertEqual(caught.exception.most, 200)

    def test_a_house_of_size_3_with_nearly_200_stands(self):
        kind = built((built((0, 0), 1),) + (0,) * 13, 1)
        book = Book(Lot("more", (11,)), ())
        for size, told in ((1, False), (2, False), (3, True)):
            self.assertIs(is_against(book, kind, bag_house(book, kind, size)), told)
        self.assertEqual(len(bag_house(book, kind, 3).joining), 196)
        self.told(book, kind, "not")
        self.told(Book(LOAN, ()), built((built((0, 0, 0), 1), 0, 0), 1), "not")
        self.told(Book(DUTY, (("f", built((0, 0), 1)),)), built((0, 0, 0), 1), "not")
        self.told(Book(FREE, ()), built((0, 1, 2, 3, 4, 5, 6), 7), "not")
        self.told(Book(ONCE, ()), built((0,) * 197, 1), "not")

    def test_somewhat_beyond(self):
        self.told(Book(THIRD, ()), built((0, 1, 2, 3), 5), "not")
        self.told(Book(FREE, ()), built((built((0,) * 8, 1), 0), 1), "made")
        self.told(Book(ODD, (("f", built((0,) * 9, 1)),)), (0, 1), "made")

    def test_great_makers(self):
        lot = common(Lot("more", (11,)), Lot("more", (12,)))
        self.told(Book(lot, ()), (0, 0), "made")
        self.told(Book(lot, ()), (0, (0, 0)), "not")
        self.told(Book(lot, (("f", (0, (0, 0))),)), (0, 0), "made")
        self.told(Book(common(lot, Lot("more", (7,))), ()), 0, "not")

    def test_equal_calls(self):
        for lot in LOTS:
            for kind in (K, (0, 0), 0):
                self.assertEqual(found(Book(lot, ()), kind), found(Book(lot, ()), kind))

    def test_errors(self):
        for call in (found, lambda book, kind: is_paper(book, kind, None)):
            for book in (Book(RawLot((False, True), (True,)), ()), Book(ONCE, (("f", 0),))):
                for kind in (0, K, 26, None):
                    with self.assertRaises(NotLet) as caught:
                        call(book, kind)
                    self.assertIs(caught.exception.__class__, NotLet)
            for thing in no_kinds():
                with self.assertRaises(NoKind) as caught:
                    call(Book(FREE, ()), thing)
                self.assertIs(caught.exception.__class__, NoKind)


class IsPaperTest(unittest.TestCase):

    def setUp(self):
        self.book = Book(DUTY, (("one", 0), ("f", (0, (0, 0)))))
        self.program = ("@", "@", "f", "one", "one")
        self.house = House(ODD, ((0, 1), (1, 0)), {0: (1,), 1: (0,)})

    def test_ordinary(self):
        self.assertIs(is_paper(self.book, 0, ("made", self.program)), True)
        self.assertIs(is_paper(self.book, 0, ("made", ("one",))), True)
        self.assertIs(is_paper(self.book, (0, 0), ("made", (("z", 0), "@", "@", "f", "z", "one"))), True)
        self.assertIs(is_paper(Book(ODD, ()), K, ("not", self.house)), True)
        self.assertIs(is_paper(Book(Lot("more", (2, 4)), ()), K, ("not", self.house)), True)
        self.assertIs(is_paper(Book(ODD, ()), (0, 0), ("made", (("long", 0), "long"))), True)

    def test_words_exchanged(self):
        self.assertIs(is_paper(self.book, 0, ("not", self.program)), False)
        self.assertIs(is_paper(Book(ODD, ()), K, ("made", self.house)), False)
        for word in ("", "Made", "mad", "made ", "no", "nothing", b"made", None, True, 0, ("made",), ["made"]):
            self.assertIs(is_paper(self.book, 0, (word, self.program)), False)
            self.assertIs(is_paper(Book(ODD, ()), K, (word, self.house)), False)

    def test_houses(self):
        self.assertIs(is_paper(Book(ODD, ()), (0, 0), ("not", self.house)), False)
        self.assertIs(is_paper(Book(DUTY, ()), K, ("not", self.house)), False)
        self.assertIs(is_paper(Book(ODD, (("f", 0),)), K, ("not", self.house)), False)
        self.assertIs(is_paper(Book(ODD, (("f", 1),)), K, ("not", self.house)), True)
        self.assertIs(is_paper(Book(ODD, ()), K, ("not", bag_house(Book(ODD, ()), K, 1))), True)
        self.assertIs(is_paper(Book(ODD, ()), K, ("not", lean(bag_house(Book(ODD, ()), K, 3)))), True)
        self.assertIs(is_paper(Book(ODD, ()), K, ("not", (ODD, self.house.joining, self.house.letters))), False)

    def test_programs(self):
        for kind, program in [
            (0, ("two",)), (0, ("@", "f", "one")), (0, ("f",)), ((0, 0), ("@", "f", "one")), ((0, (0, 0)), ("f",)), (1, self.program),
            (0, ("@", ("x", 0), "x", "one")), (0, ("@", "one", "one")), ((0, 0), (("x", 0), "one")), (0, ("@", "@", "f", "one", "x")),
            ((0, 0), (("x", 1), "@", "@", "f", "one", "one")), (0, list(self.program)), (0, ("@", "@", "f", "one")), (0, "one"), (0, ()),
        ]:
            self.assertIs(is_paper(self.book, kind, ("made", program)), False)
        self.assertIs(is_paper(self.book, (0, (0, 0)), ("made", (("x", 0), ("y", 0), "@", "@", "f", "x", "y"))), True)
        self.assertIs(is_paper(self.book, (0, (0, 0)), ("made", (("x", 0), ("y", 0), "@", "@", "f", "x", "x"))), False)
        self.assertIs(is_paper(Book(FREE, self.book.tools), (0, (0, 0)), ("made", (("x", 0), ("y", 0), "@", "@", "f", "x", "x"))), True)

    def test_more_than_400_words(self):
        for many in (100, 134, 2000):
            program = ("@", "@", "f", "one") * many + ("one",)
            self.assertEqual(len(program), 4 * many + 1)
            self.assertIs(is_paper(self.book, 0, ("made", program)), True)
            self.assertIs(is_paper(self.book, (0, 0), ("made", program)), False)
            self.assertIs(is_paper(self.book, 0, ("made", program[:-1])), False)
            self.assertIs(is_paper(self.book, 0, ("made", program[:-1] + ("two",))), False)

    def test_great_kinds(self):
        kind = built((0,) * 2000, 0)
        program = tuple(("x", 0) for _ in range(2000)) + ("x",)
        self.assertIs(is_paper(Book(FREE, ()), kind, ("made", program)), True)
        self.assertIs(is_paper(Book(DUTY, ()), kind, ("made", program)), False)
        self.assertIs(is_paper(Book(FREE, ()), (0, kind), ("made", program)), False)
        deep = 0
        for _ in range(3000):
            deep = built((deep,), 0)
        self.assertIs(is_paper(Book(FREE, ()), built((deep,), 1), ("made", program)), False)

    def test_things(self):
        rows = [("made", self.program, 0), ("made",), ["made", self.program], ("made", [self.program]), (self.program, "made"), self.program, "made"]
        rows += [("not", None), ("not",), {"made": self.program}, ("made", None), [self.book], (True, self.program), (False, self.house)]
        for thing in rows + odd_things() + odd_integers():
            self.assertIs(is_paper(self.book, (0, 1), thing), False)
            self.assertIs(is_paper(Book(ODD, ()), K, thing), False)
            self.assertIs(is_paper(self.book, (0, 1), ("made", thing)), False)
            self.assertIs(is_paper(self.book, (0, 1), (thing, self.program)), False)
            self.assertIs(is_paper(Book(DUTY, ()), K, ("not", thing)), False)
        for thing in no_programs():
            self.assertIs(is_paper(self.book, 0, ("made", thing)), False)


class ToolsTest(unittest.TestCase):

    def test_needless(self):
        tools = (("z", 0), ("f", (0, 1)), ("y", 1), ("g", (1, 2)))
        self.assertEqual(needless(Book(DUTY, tools)), ("y",))
        self.assertEqual(needless(Book(DUTY, ())), ())
        self.assertEqual(needless(Book(DUTY, (("b", 0), ("a", 0)))), ("a", "b"))
        self.assertEqual(needless(Book(DUTY, (("b", 0), ("a", 1)))), ())
        self.assertEqual(needless(Book(DUTY, (("c", (3, 3)), ("b", (0, 0)), ("a", (0, 1))))), ("b", "c"))
        # The pair comes of what drops just where a name may stand nowhere.
        tools = (("k", (0, (1, 0))), ("j", (1, (0, 0))))
        for lot in LOTS[1:]:
            self.assertEqual(needless(Book(lot, tools)), ("j", "k"))
            self.assertEqual(needless(Book(lot, tools[:1])), ("k",) if lot in (LOAN, FREE) else ())
        self.assertEqual(needless(Book(ONCE, ())), ())

    def test_needless_as_found_tells(self):
        chance = random.Random(72)
        for _ in range(60):
            lot = chance.choice(LOTS[1:])
            tools = tuple((name, some_kind(chance, chance.randrange(1, 4))) for name in chance.sample(["z", "f", "g", "a"], 3))
            told = []
            for tool in tools:
                others = Book(lot, tuple(other for other in tools if other != tool))
                if not is_passed(others, tool[1]):
                    break
                if found(others, tool[1])[0] == "made":
                    told.append(tool[0])
            else:
                self.assertEqual(needless(Book(lot, tools)), tuple(sorted(told)))

    def test_is_equal_help(self):
        book = Book(DUTY, (("z", 0), ("f", (0, 1))))
        for tools, told in [((("z", 0), ("f", (0, 1))), True), ((("a", 0), ("b", (0, 1))), True), ((("a", 0), ("b", (0, 1)), ("c", 1)), True),
                            ((("a", 0), ("b", 1)), False), ((("a", 0),), False), ((("b", (0, 1)),), False), ((), False),
                            ((("a", 0), ("b", (0, 1)), ("c", 2)), False), ((("a", 0), ("b", (0, (0, 1)))), False), ((("a", 0), ("b", (0, 1)), ("c", (2, 2))), True)]:
            self.assertIs(is_equal_help(book, Book(DUTY, tools)), told)
            self.assertIs(is_equal_help(Book(DUTY, tools), book), told)
            self.assertIs(is_equal_help(book, Book(Lot("more", (1, 5)), tools)), told)
            for lot in (LOAN, FREE, ODD, Lot("more", (2, 3))):
                self.assertIs(is_equal_help(book, Book(lot, tools)), False)
        self.assertIs(is_equal_help(Book(ONCE, ()), Book(ONCE, ())), True)
        self.assertIs(is_equal_help(Book(LOAN, ()), Book(LOAN, (("f", (0, (1, 0))),))), True)
        self.assertIs(is_equal_help(Book(ODD, ()), Book(ODD, (("f", (0, (1, 0))),))), False)

    def test_no_books(self):
        for thing in odd_things() + odd_integers() + [DUTY, (DUTY, ()), Book]:
            self.assertIs(is_equal_help(Book(DUTY, ()), thing), False)

    def test_not_let(self):
        wrong = [Book(RawLot((False, True), (True,)), ()), Book(RawLot((), (True,)), (("f", 0),)), Book(ONCE, (("f", 0),))]
        for book in wrong:
            with self.assertRaises(NotLet) as caught:
                needless(book)
            self.assertIs(caught.exception.__class__, NotLet)
            for one, other in [(book, Book(DUTY, ())), (Book(DUTY, ()), book), (book, book), (book, None), (Book(ONCE, ()), book)]:
                with self.assertRaises(NotLet) as caught:
                    is_equal_help(one, other)
                self.assertIs(caught.exception.__class__, NotLet)


if __name__ == "__main__":
    unittest.main()
