"""3.2: plain programs."""

import unittest

from usecounts.errors import Faulty, NoHanded, NoProgram, TooMany
from usecounts.judging import Book, fault, kind_of
from usecounts.kinds import built, lefts
from usecounts.lots import Lot
from usecounts.programs import is_program, standard
from usecounts.stepping import is_plain, plain, rest, stepped, steps
from tests import reference
from tests.odd_things import nested, odd_integers, odd_things
from tests.test_judging import no_named
from tests.test_programs import no_programs
from tests.test_stepping import grown

FREE = Book(Lot("free", ()), ())
HANDED = tuple(reference.NAMED.items())
K = ((0, (0, 1)), (0, 1))


def is_plain_term(found, named, around=(), is_user=False):
    """Whether each part that is no f of a use is as 3.2 tells, told part by part."""
    told = reference.kind(found, named, around)
    if found[0] == "use":
        if not is_user and isinstance(told, tuple):
            return False
        if not is_plain_term(found[1], named, around, True):
            return False
        return is_plain_term(found[2], named, around)
    if found[0] == "take":
        return not is_user and is_plain_term(found[2], named, (found[1],) + around)
    return is_user or not isinstance(told, tuple)


class PlainTest(unittest.TestCase):

    def test_letters(self):
        book = Book(Lot("free", ()), (("one", 0), ("two", (0, (0, 0)))))
        self.assertEqual(plain(book, (), ("one",)), ("one",))
        self.assertEqual(plain(book, (), ("@", ("x", 0), "@", "@", "two", "x", "x", "one")), ("@", "@", "two", "one", "one"))

    def test_pairs_at_the_top(self):
        self.assertEqual(plain(FREE, (("f", (0, 1)),), ("f",)), (("a", 0), "@", "f", "a"))
        self.assertEqual(plain(FREE, (("f", (0, (1, 2))),), ("f",)), (("a", 0), ("b", 1), "@", "@", "f", "a", "b"))
        self.assertEqual(plain(FREE, (("f", (0, (1, 2))), ("x", 0)), ("@", "f", "x")), (("a", 1), "@", "@", "f", "x", "a"))
        self.assertEqual(plain(FREE, (), (("f", (0, 1)), "f")), (("a", (0, 1)), ("b", 0), "@", "a", "b"))
        self.assertEqual(plain(FREE, (("a", (0, 1)),), ("a",)), (("b", 0), "@", "a", "b"))

    def test_lefts_that_are_pairs(self):
        told = (("a", (0, 1)), "@", "f", ("b", 0), "@", "a", "b")
        self.assertEqual(plain(FREE, (("f", ((0, 1), 2)),), ("f",)), told)
        # The new names of new names.
        deep = (((0, 1), 2), 3)
        told = (("a", ((0, 1), 2)), "@", "f", ("b", (0, 1)), "@", "a", ("c", 0), "@", "b", "c")
        self.assertEqual(plain(FREE, (("f", deep),), ("f",)), told)
        self.assertEqual(plain(FREE, (), (("x", K), "x"))[:3], (("a", K), ("b", (0, (0, 1))), ("c", 0)))

    def test_within(self):
        handed = (("g", ((0, 1), 2)), ("f", (0, 1)))
        self.assertEqual(plain(FREE, handed, ("@", "g", "f")), ("@", "g", ("a", 0), "@", "f", "a"))
        handed = (("g", ((0, (0, 1)), 2)), ("f", (0, (0, 1))))
        program = ("@", "g", ("y", 0), "@", "f", "y")
        self.assertEqual(plain(FREE, handed, program), ("@", "g", ("a", 0), ("b", 0), "@", "@", "f", "a", "b"))
        # A take that a step leads to.
        program = ("@", "@", ("x", (0, (0, 1))), "g", "f", ("y", 0), "@", "f", "y")
        self.assertEqual(plain(FREE, handed, program), ("@", "g", ("a", 0), ("b", 0), "@", "@", "f", "a", "b"))

    def test_of_any_programs(self):
        longer = 0
        for program, kind in reference.some_programs(600, 31, fuel=30):
            found = plain(FREE, HANDED, program)
            wanted = reference.plain(reference.rest(reference.term(program)), reference.NAMED)
            self.assertEqual(reference.term(found), wanted)
            self.assertIs(is_plain_term(wanted, reference.NAMED), True)
            self.assertEqual((standard(found), plain(FREE, HANDED, found), steps(found)), (found, found, ()))
            self.assertEqual(kind_of(FREE, HANDED, found), kind)
            longer += len(found) > len(rest(FREE, HANDED, program))
        self.assertGreater(longer, 50)

    def test_right_programs_stay_right(self):
        for lot in (Lot("once", ()), Lot("more", (2,))):
            book = Book(lot, HANDED)
            many = 0
            for program, _ in reference.some_programs(1000, 32, fuel=20):
                if fault(book, (), program) is None:
                    self.assertIsNone(fault(book, (), plain(book, (), program)))
                    many += 1
            self.assertGreater(many, 100)

    def test_errors_in_order(self):
        for thing in no_named(6):
            self.assertRaises(NoHanded, plain, FREE, thing, ())
        for thing in no_programs():
            self.assertRaises(NoProgram, plain, FREE, (), thing)
        with self.assertRaises(Faulty) as caught:
            plain(Book(Lot("once", ()), ()), (), (("x", 0), ("y", 0), "x"))
        self.assertEqual(caught.exception.fault, ("count", 1, 0))

    def test_to_5000_words_on_the_way(self):
        handed = (("g", built((0,) * 50, 0)), ("f", (0, 0)), ("y", 0))
        self.assertEqual(len(plain(FREE, handed, (("w", 0),) * 99 + grown(50, 97))), 5000)
        with self.assertRaises(TooMany) as caught:
            plain(FREE, handed, (("w", 0),) * 100 + grown(50, 97))
        self.assertEqual(caught.exception.most, 5000)

    def test_to_5000_words_of_its_own(self):
        # Each f has room for 24 names: 2 + 24 * 2 words in place of 1.
        kind = built((0,) * 24, 1)
        for many, more in ((100, 0), (101, 0), (99, 98), (99, 99), (99, 48), (99, 49)):
            named = (("g", built((kind,) * many, 0)), ("f", kind))
            program = (("w", 0),) * more + ("@",) * many + ("g",) + ("f",) * many
            words = more + many + 1 + many * 73
            if words <= 5000:
                self.assertEqual(len(plain(FREE, named, program)), words)
            else:
                self.assertRaises(TooMany, plain, FREE, named, program)
        for more in (0, 1, 2):
            named = (("g", built((kind,) * 66, 0)), ("f", kind))
            program = (("w", 0),) * (49 + more) + ("@",) * 66 + ("g",) + ("f",) * 66
            words = 49 + more + 66 + 1 + 66 * 73
            if words <= 5000:
                self.assertEqual(len(plain(FREE, named, program)), words)
            else:
                self.assertRaises(TooMany, plain, FREE, named, program)

    def test_exactly_5000_words(self):
        kind = built((0,) * 2499, 0)
        self.assertEqual(len(plain(FREE, (("f", built((0,) * 1666, 0)),), ("f",))), 4999)
        self.assertEqual(len(plain(FREE, (("f", built((0,) * 1666, 0)),), (("x", 0), "f"))), 5000)
        self.assertRaises(TooMany, plain, FREE, (("f", built((0,) * 1666, 0)),), (("x", 0), ("x", 0), "f"))
        self.assertRaises(TooMany, plain, FREE, (("f", kind),), ("f",))

    def test_deep(self):
        kind = nested(1500, lambda core: built((core,), 0), 0)
        found = plain(FREE, (("f", kind),), ("f",))
        self.assertEqual((len(found), len(lefts(found[0][1]))), (1500 * 3 + 1, 1))
        self.assertIs(is_plain(FREE, (("f", kind),), found), True)
        program = (("x", 0),) * 3000 + ("x",)
        self.assertEqual(plain(FREE, (), program), standard(program))


class IsPlainTest(unittest.TestCase):

    def test_ordinary(self):
        handed = (("f", (0, 1)), ("x", 0), ("g", ((0, 1), 2)))
        for program, told in [
            (("x",), True), (("f",), False), ((("y", 0), "@", "f", "y"), True), (("@", "f", "x"), True), (("@", "g", "f"), False),
            (("@", "g", ("y", 0), "@", "f", "y"), True), (("@", "g", ("f", 0), "@", "f", "x"), False), (("@", ("y", 0), "y", "x"), False),
            (("@", "f", "@", ("y", 0), "y", "x"), False), ((("y", 0), "y"), True), ((("y", (0, 1)), "y"), False),
            ((("y", (0, 1)), ("z", 0), "@", "y", "z"), True), (("@", "x", "x"), False), (("w",), False), (("@", "f", "f"), False),
        ]:
            self.assertIs(is_plain(FREE, handed, program), told, program)

    def test_the_names_need_not_be_standard(self):
        self.assertIs(is_plain(FREE, (), (("q", 0), ("q", 1), "q")), True)
        self.assertIs(is_plain(FREE, (), (("b", 0), ("a", 1), "a")), True)

    def test_not_right(self):
        once = Book(Lot("once", ()), (("one", 0), ("f", (0, (0, 0)))))
        self.assertIs(is_plain(once, (), (("x", 0), "one")), False)
        self.assertIs(is_plain(once, (), (("x", 0), "@", "@", "f", "x", "x")), False)
        self.assertIs(is_plain(once, (), (("x", 0), "@", "@", "f", "x", "one")), True)
        self.assertIs(is_plain(once, (("h", 0),), ("one",)), False)
        self.assertIs(is_plain(Book(Lot("loan", ()), once.tools), (("h", 0),), ("one",)), True)

    def test_changed_programs(self):
        words = ["@", "z", "g", "h", "a", "b", ("a", 0), ("b", (0, 0)), ("x", 1), 0, None, ["a"], ("a", 26), ""]
        plains, changed = 0, 0
        for program, _ in reference.some_programs(150, 33, fuel=14):
            found = plain(FREE, HANDED, program)
            self.assertIs(is_plain(FREE, HANDED, found), True)
            self.assertIs(is_plain(FREE, HANDED, list(found)), False)
            others = [found[:at] + found[at + 1:] for at in range(len(found))]
            others += [found[:at] + (word,) + found[at:] for at in range(len(found) + 1) for word in words]
            others += [found[:at] + (word,) + found[at + 1:] for at in range(len(found)) for word in words]
            for other in others:
                told = is_program(other) and fault(FREE, HANDED, other) is None
                told = told and is_plain_term(reference.term(other), reference.NAMED)
                self.assertIs(is_plain(FREE, HANDED, other), told)
                plains, changed = plains + told, changed + 1
        self.assertGreater(plains, 100)
        self.assertGreater(changed - plains, 1000)

    def test_things(self):
        for thing in no_programs() + odd_things() + odd_integers():
            self.assertIs(is_plain(FREE, (), thing), False)
            self.assertIs(is_plain(FREE, HANDED, thing), False)

    def test_no_handed(self):
        for thing in no_named(6):
            for program in (("x",), None, (("x", 0), "x")):
                self.assertRaises(NoHanded, is_plain, FREE, thing, program)

    def test_greater_than_5000_words(self):
        handed = (("g", built((0,) * 60, 0)), ("y", 0))
        program = ("@",) * 60 + ("g",) + ("y",) * 60
        for _ in range(2):
            program = ("@",) * 60 + ("g",) + program * 60
            self.assertIs(is_plain(FREE, handed, program), True)
            self.assertIs(is_plain(FREE, handed, (("x", 0),) + program), True)
            self.assertIs(is_plain(FREE, handed, program[1:-1]), False)
        great = stepped(grown(50, 97), 0)
        self.assertIs(is_plain(FREE, (("g", built((0,) * 50, 0)), ("f", (0, 0)), ("y", 0)), great), True)


if __name__ == "__main__":
    unittest.main()
