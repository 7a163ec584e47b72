"""2.2, and counts of 2.3: programs."""

import itertools
import unittest

from usecounts import lots, stepping
from usecounts.errors import CountsError, NoPlace, NoProgram
from usecounts.judging import Book
from usecounts.kinds import built
from usecounts.programs import counts, is_program, is_same, open_names, part, standard
from tests import reference
from tests.odd_things import nested, odd_integers, odd_things

FREE = Book(lots.Lot("free", ()), ())


def no_programs():
    """Things that are no program of any size."""
    take = ("x", 0)
    rows = [
        (), ("@",), ("@", "a"), ("a", "a"), ("@", "a", "a", "a"), ("@", "@", "a", "a"), (take,), (take, "@", "a"),
        ("a", take), (take, "a", "a"), ("@", take, "a"), ("@", "a", take), ("@", take, take), (take, take),
        ("A",), ("aB",), ("",), ("a1",), ("a ",), ("@@",), ("abcdefghi",), ("a\n",), (b"a",), (b"@", "a", "a"), (0,), (None,), (True,),
        ("a_",), ("`",), ("{",), (("a",),), (["x", 0], "x"), (("x", 0, 0), "x"), (("x",), "x"), ((), "x"), (("", 0), "x"), (("X", 0), "x"),
        (("abcdefghi", 0), "x"), (("@", 0), "x"), ((0, "x"), "x"), (("x", 26), "x"), (("x", -1), "x"), (("x", True), "x"),
        (("x", [0, 0]), "x"), (("x", (0,)), "x"), (("x", (0, 0, 0)), "x"), (("x", None), "x"), (("x", "a"), "x"), ((b"x", 0), "x"),
        ["a"], ["@", "a", "a"], [("x", 0), "x"], "a", "@", "@aa", ("x", 0), {"a": 1}, b"a", (("@", "a", "a"),), ("@", ("a", "a"), "a"),
        ("@",) * 10000, ("a",) * 10000, (take,) * 3000, ("@", "a") * 5000, ((take,) * 3000,), ("@",) * 300 + ("a",) * 300,
        ("@",) * 300 + ("a",) * 302, (("x", nested(38, lambda core: (core, 0), "a")), "x"),
    ]
    return rows + [thing for thing in odd_things() + odd_integers() if thing != ("once",)]


class IsProgramTest(unittest.TestCase):

    def test_ordinary(self):
        for program in [
            ("a",), ("once",), ("abcdefgh",), ("z",), ("@", "a", "a"), (("x", 0), "x"), (("x", 0), "y"), (("x", ((0, 1), 25)), "@", "x", "x"),
            (("f", (0, 1)), ("x", 0), "@", "f", "x"), ("@", "@", "a", "b", "c"), ("@", "a", "@", "b", "c"), ("@", ("x", 0), "x", "y"),
            ("@", "a", ("x", 0), "x"), (("x", 0), ("x", (0, 1)), "x"), ("@", "a", ("x", 0), "@", "x", "@", "x", "b"),
        ]:
            self.assertIs(is_program(program), True, program)

    def test_what_is_none(self):
        for thing in no_programs():
            self.assertIs(is_program(thing), False, thing)

    def test_all_short_rows_of_words(self):
        shapes = {1: {("a",)}}
        for many in range(2, 7):
            shapes[many] = {(("x", 0),) + body for body in shapes[many - 1]}
            for first in range(1, many - 1):
                shapes[many] |= {("@",) + user + handed for user in shapes[first] for handed in shapes[many - 1 - first]}
            for row in itertools.product(("a", "@", ("x", 0)), repeat=many):
                self.assertIs(is_program(row), row in shapes[many], row)

    def test_to_400_words(self):
        for many, told in ((398, True), (399, True), (400, False), (4999, False)):
            self.assertIs(is_program((("x", 0),) * many + ("x",)), told)
        for many, told in ((198, True), (199, True), (200, False), (4999, False)):
            self.assertIs(is_program(("@",) * many + ("x",) * (many + 1)), told)
            self.assertIs(is_program(("@", "x") * many + ("x",)), told)
            self.assertIs(is_program((("x", 0),) + ("@",) * many + ("x",) * (many + 1)), told)

    def test_at_400_words_and_wrong(self):
        for many in (399, 400, 401):
            self.assertIs(is_program(("@",) * (many // 2) + ("x",) * (many // 2)), False)
            self.assertIs(is_program((("x", 0),) * many), False)
            self.assertIs(is_program(("x",) * many), False)

    def test_kinds_as_is_kind_lets(self):
        for wrap in (lambda core: (core, 0), lambda core: (0, core)):
            self.assertIs(is_program((("x", nested(30, wrap, 1)), "x")), True)
            self.assertIs(is_program((("x", nested(31, wrap, 1)), "x")), False)
            self.assertIs(is_program(("@", "a", ("x", nested(31, wrap, 1)), "x")), False)
        letters = nested(5, lambda core: (core, core), 0)
        self.assertIs(is_program((("x", letters), "x")), True)
        self.assertIs(is_program((("x", (letters, letters)), "x")), False)
        self.assertIs(is_program((("x", nested(40, lambda core: (core, core), 0)), "x")), False)
        self.assertIs(is_program((("x", nested(38, lambda core: (0, core), 1)),) * 200 + ("x",)), False)

    def test_cut_off_and_too_long(self):
        for program, _ in reference.some_programs(200, 5):
            for at in range(len(program)):
                self.assertIs(is_program(program[:at]), False)
            self.assertIs(is_program(program + ("a",)), False)
            self.assertIs(is_program(program + (("a", 0),)), False)
            self.assertIs(is_program(("@",) + program), False)
            self.assertIs(is_program(list(program)), False)
            self.assertIs(is_program((("a", 0),) + program), True)
            self.assertIs(is_program(("@",) + program + program), True)


class PartTest(unittest.TestCase):

    def test_each_place(self):
        program = (("f", (0, 1)), "@", "@", "f", ("x", 0), "x", "y")
        parts = [program, program[1:], ("@", "f", ("x", 0), "x"), ("f",), (("x", 0), "x"), ("x",), ("y",)]
        self.assertEqual([part(program, place) for place in range(7)], parts)

    def test_parts_are_programs(self):
        for program, _ in reference.some_programs(200, 6):
            for place in range(len(program)):
                found = part(program, place)
                self.assertIs(is_program(found), True)
                self.assertEqual(program[place:place + len(found)], found)

    def test_no_place(self):
        program = ("@", ("x", 0), "x", "y")
        self.assertEqual((part(program, 0), part(program, 3)), (program, ("y",)))
        for thing in [-1, 4, 5, True, False, None, "0", (0,), [0], 10 ** 29, -4] + odd_things() + odd_integers():
            self.assertRaises(NoPlace, part, program, thing)
        self.assertRaises(NoPlace, part, ("x",), 1)
        self.assertRaises(NoPlace, part, ("x",), True)
        self.assertEqual(part(("x",), 0), ("x",))


class OpenNamesTest(unittest.TestCase):

    def test_ordinary(self):
        self.assertEqual(open_names(("a",)), ("a",))
        self.assertEqual(open_names((("a", 0), "a")), ())
        self.assertEqual(open_names(("@", "b", "@", "a", "b")), ("a", "b"))
        self.assertEqual(open_names((("b", 0), "@", "b", "@", "a", "c")), ("a", "c"))
        self.assertEqual(open_names(("@", "ab", "@", "b", "aa")), ("aa", "ab", "b"))

    def test_taken_here_and_open_there(self):
        self.assertEqual(open_names(("@", ("x", 0), "x", "x")), ("x",))
        self.assertEqual(open_names(("@", "x", ("x", 0), "x")), ("x",))
        self.assertEqual(open_names(("@", ("x", 0), "y", ("y", 0), "x")), ("x", "y"))
        self.assertEqual(open_names((("y", 0), "@", ("x", 0), "x", "x")), ("x",))
        self.assertEqual(open_names((("x", 0), "@", ("x", 0), "x", "x")), ())
        self.assertEqual(open_names(("@", "@", ("x", 0), ("y", 0), "x", "y", "x")), ("x", "y"))


class StandardTest(unittest.TestCase):

    def test_ordinary(self):
        self.assertEqual(standard(("x",)), ("x",))
        self.assertEqual(standard((("x", 0), "x")), (("a", 0), "a"))
        self.assertEqual(standard((("x", 0), ("y", (0, 1)), "@", "y", "x")), (("a", 0), ("b", (0, 1)), "@", "b", "a"))
        self.assertEqual(standard(("@", ("x", 0), "x", ("x", 1), "x")), ("@", ("a", 0), "a", ("b", 1), "b"))

    def test_takes_of_one_name(self):
        program = (("x", 0), ("x", 1), ("y", 2), "@", "x", ("x", 3), "@", "y", "x")
        self.assertEqual(standard(program), (("a", 0), ("b", 1), ("c", 2), "@", "b", ("d", 3), "@", "c", "d"))
        program = ("@", (("x", 0)), "@", ("x", 1), "x", "x", "x")
        self.assertEqual(standard(program), ("@", ("a", 0), "@", ("b", 1), "b", "a", "x"))

    def test_open_names_are_left_out(self):
        self.assertEqual(standard((("x", 0), ("y", 0), "@", "@", "x", "a", "y")), (("b", 0), ("c", 0), "@", "@", "b", "a", "c"))
        self.assertEqual(standard((("x", 0), ("y", 0), "@", "b", "@", "x", "y")), (("a", 0), ("c", 0), "@", "b", "@", "a", "c"))
        self.assertEqual(standard(("@", "a", ("a", 0), "a")), ("@", "a", ("b", 0), "b"))
        # A name that is taken alone, and not open, is no open name.
        self.assertEqual(standard((("b", 0), ("a", 0), "@", "a", "b")), (("a", 0), ("b", 0), "@", "b", "a"))

    def test_many_takes(self):
        letters = "abcdefghijklmnopqrstuvwxyz"
        names = list(letters) + [first + second for first in letters for second in letters]
        program = (("x", 0),) * 399 + ("x",)
        told = standard(program)
        self.assertEqual(told, tuple((name, 0) for name in names[:399]) + (names[398],))
        program = (("x", 0),) * 30 + ("@", "aa", "c")
        names.remove("aa")
        names.remove("c")
        self.assertEqual(standard(program), tuple((name, 0) for name in names[:30]) + ("@", "aa", "c"))
        self.assertEqual(standard((("x", 0),) * 4999 + ("x",))[-2:], (("gjg", 0), "gjg"))

    def test_of_its_own_result(self):
        for program, _ in reference.some_programs(300, 7):
            told = standard(program)
            self.assertEqual(standard(told), told)
            self.assertEqual(reference.term(told), reference.term(program))
            self.assertEqual(open_names(told), open_names(program))
            takes = [word[0] for word in told if isinstance(word, tuple)]
            self.assertEqual(len(set(takes)), len(takes))
            self.assertEqual(set(takes) & set(open_names(program)), set())
            self.assertEqual(takes, sorted(takes, key=lambda name: (len(name), name)))


class IsSameTest(unittest.TestCase):

    def test_taken_names_alone(self):
        program = (("x", 0), ("y", (0, 1)), "@", "y", "x")
        for other in (program, (("y", 0), ("x", (0, 1)), "@", "x", "y"), (("q", 0), ("abcdefgh", (0, 1)), "@", "abcdefgh", "q")):
            self.assertIs(is_same(program, other), True)
        self.assertIs(is_same((("x", 0), ("x", 1), "x"), (("x", 0), ("y", 1), "y")), True)
        self.assertIs(is_same((("x", 0), ("x", 1), "x"), (("x", 0), ("y", 1), "x")), False)

    def test_otherwise_unlike(self):
        program = (("x", 0), ("y", (0, 1)), "@", "y", "x")
        for other in [
            (("x", 0), ("y", (0, 1)), "@", "x", "y"), (("x", 1), ("y", (0, 1)), "@", "y", "x"), (("x", 0), ("y", (0, 2)), "@", "y", "x"),
            (("x", 0), ("x", (0, 1)), "@", "x", "x"), (("x", 0), "@", "y", "x"), (("x", 0), ("y", (0, 1)), "@", "y", "z"), program[2:],
            (("x", 0), ("y", (0, 1)), "y"), ("a",), (("x", 0), ("y", (0, 1)), "@", "y", "@", "y", "x"), ("@",) + program + ("x",),
        ]:
            self.assertIs(is_same(program, other), False)
            self.assertIs(is_same(other, program), False)
        self.assertIs(is_same(("x",), ("y",)), False)
        self.assertIs(is_same(("x",), ("x",)), True)
        # A name that is open in one and taken in the other.
        self.assertIs(is_same((("a", 0), "b"), (("b", 0), "b")), False)
        self.assertIs(is_same((("a", 0), "b"), (("c", 0), "b")), True)

    def test_no_programs(self):
        for thing in no_programs():
            self.assertIs(is_same((("x", 0), "x"), thing), False)
            self.assertIs(is_same(("a",), thing), False)

    def test_each_with_each(self):
        rows = [program for program, _ in reference.some_programs(60, 8)]
        rows += [standard(program) for program in rows]
        terms = [reference.term(program) for program in rows]
        for program, one in zip(rows, terms):
            for other, two in zip(rows, terms):
                self.assertIs(is_same(program, other), one == two)


class CountsTest(unittest.TestCase):

    def test_ordinary(self):
        program = (("x", 0), ("y", 1), "@", "@", "f", "x", "@", "f", "x")
        self.assertEqual(counts(program), {0: 2, 1: 0, "f": 2})
        self.assertEqual(counts(("a",)), {"a": 1})
        self.assertEqual(counts(("@", ("x", 0), "@", "x", "x", "x")), {1: 2, "x": 1})
        self.assertEqual(counts((("x", 0), "@", "x", ("x", 0), "x")), {0: 1, 3: 1})
        self.assertEqual(counts(("@", ("x", 0), "y", ("y", 0), "x")), {1: 0, 3: 0, "x": 1, "y": 1})

    def test_new_each_time(self):
        program = (("x", 0), "@", "x", "y")
        found = counts(program)
        found["y"] = 7
        found.clear()
        self.assertEqual(counts(program), {0: 1, "y": 1})

    def test_no_program(self):
        for thing in no_programs():
            with self.assertRaises(NoProgram) as caught:
                counts(thing)
            self.assertIs(caught.exception.__class__.__mro__[1], CountsError)


class GreatProgramsTest(unittest.TestCase):
    """Programs that other calls returned."""

    def test_greater_than_is_program_lets(self):
        program = ("@", ("x", 0)) + ("@",) * 40 + ("g",) + ("x",) * 40 + ("@",) * 40 + ("y",) * 41
        great = stepping.stepped(program, 0)
        self.assertEqual(len(great), 40 + 1 + 40 * 81)
        self.assertIs(is_program(great), False)
        self.assertEqual(counts(great), {"g": 1, "y": 41 * 40})
        self.assertEqual((open_names(great), standard(great), is_same(great, great)), (("g", "y"), great, True))
        self.assertIs(is_same(program, great), False)
        self.assertEqual(part(great, 41), ("@",) * 40 + ("y",) * 41)
        self.assertEqual(part(great, 0), great)
        self.assertRaises(NoPlace, part, great, len(great))

    def test_great_kinds(self):
        kind = 5
        for _ in range(1500):
            kind = built((kind,), 1)
        other = built((kind,), 1)
        for deep in (kind, built((0,) * 3000, 1)):
            program = (("x", deep), "x")
            self.assertIs(is_program(program), False)
            self.assertEqual(counts(program), {0: 1})
            self.assertEqual(open_names(program), ())
            self.assertEqual(standard(program)[1], "a")
            self.assertIs(is_same(program, (("y", deep), "y")), True)
            self.assertIs(is_same(program, (("y", other), "y")), False)
            self.assertIs(is_same(program, standard(program)), True)

    def test_many_within_one_another(self):
        for program in ((("x", 0),) * 5000 + ("x",), ("@",) * 4999 + ("x",) * 5000, ("@", "x") * 4999 + ("x",)):
            self.assertIs(is_program(program), False)
            self.assertIs(is_same(program, standard(program)), True)
            self.assertEqual(part(program, 0), program)
            self.assertEqual(sum(counts(program).values()), program.count("x"))


if __name__ == "__main__":
    unittest.main()
