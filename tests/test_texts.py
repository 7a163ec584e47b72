"""9.1: the texts of kinds and programs."""

import unittest

from usecounts.judging import Book, kind_of
from usecounts.kinds import built, is_kind
from usecounts.lots import Lot
from usecounts.programs import is_program, standard
from usecounts.stepping import plain, stepped
from usecounts.texts import kind_text, program_text
from tests import reference
from tests.odd_things import nested
from tests.test_kinds import small_kinds

FREE = Book(Lot("free", ()), ())


def slow_kind_text(kind):
    if not isinstance(kind, tuple):
        return "abcdefghijklmnopqrstuvwxyz"[kind]
    left = slow_kind_text(kind[0])
    return ("(" + left + ")" if isinstance(kind[0], tuple) else left) + " > " + slow_kind_text(kind[1])


def slow_program_text(words):
    """The text of the first program among the words, and those behind it."""
    if words[0] == "@":
        user, behind = slow_program_text(words[1:])
        handed, behind = slow_program_text(behind)
        return "(" + user + " " + handed + ")", behind
    if isinstance(words[0], tuple):
        body, behind = slow_program_text(words[1:])
        return "[" + words[0][0] + ":" + slow_kind_text(words[0][1]) + "] " + body, behind
    return words[0], words[1:]


class KindTextTest(unittest.TestCase):

    def test_letters(self):
        self.assertEqual([kind_text(letter) for letter in range(26)], list("abcdefghijklmnopqrstuvwxyz"))

    def test_pairs(self):
        for kind, text in [
            ((0, 1), "a > b"), ((25, 25), "z > z"), ((0, (1, 2)), "a > b > c"), (((0, 1), 2), "(a > b) > c"),
            (((0, 1), (2, 3)), "(a > b) > c > d"), ((((0, 1), 2), 3), "((a > b) > c) > d"), (((0, (1, 2)), 3), "(a > b > c) > d"),
            ((0, ((1, 2), 3)), "a > (b > c) > d"), (((0, (0, 1)), (0, 1)), "(a > a > b) > a > b"),
        ]:
            self.assertEqual(kind_text(kind), text)

    def test_all_small_kinds(self):
        texts = {}
        for kind in small_kinds(3):
            text = kind_text(kind)
            self.assertEqual(text, slow_kind_text(kind))
            self.assertEqual(texts.setdefault(text, kind), kind)

    def test_great_kinds(self):
        kind = nested(1500, lambda core: built((core,), 1), 0)
        self.assertIs(is_kind(kind), False)
        self.assertEqual(kind_text(kind), "(" * 1499 + "a > b" + ") > b" * 1499)
        self.assertEqual(kind_text(built((0,) * 3000, 25)), "a > " * 3000 + "z")
        kind = nested(12, lambda core: built((core, core), 0), 0)
        self.assertEqual(kind_text(kind), slow_kind_text(kind))


class ProgramTextTest(unittest.TestCase):

    def test_ordinary(self):
        for program, text in [
            (("a",), "a"), (("abcdefgh",), "abcdefgh"), (("@", "f", "x"), "(f x)"), ((("x", 0), "x"), "[x:a] x"),
            (("@", "@", "f", "x", "y"), "((f x) y)"), (("@", "f", "@", "g", "y"), "(f (g y))"), ((("x", (0, 1)), ("y", 25), "y"), "[x:a > b] [y:z] y"),
            (("@", ("x", 0), "x", "y"), "([x:a] x y)"), (("@", "y", ("x", 0), "x"), "(y [x:a] x)"), ((("x", ((0, 1), 2)), "x"), "[x:(a > b) > c] x"),
            ((("x", 0), "@", "x", ("y", 1), "@", "y", "x"), "[x:a] (x [y:b] (y x))"), (("@", ("x", 0), "@", "x", "x", "@", "x", "x"), "([x:a] (x x) (x x))"),
        ]:
            self.assertEqual(program_text(program), text)

    def test_of_any_programs(self):
        texts = {}
        for program, _ in reference.some_programs(500, 61):
            text = program_text(program)
            self.assertEqual((text, ()), slow_program_text(program))
            self.assertEqual(texts.setdefault(text, program), program)

    def test_returned_programs(self):
        great = stepped(("@", ("x", 0)) + ("@",) * 40 + ("g",) + ("x",) * 40 + ("@",) * 40 + ("y",) * 41, 0)
        self.assertIs(is_program(great), False)
        self.assertEqual((program_text(great), ()), slow_program_text(great))
        found = plain(FREE, (("f", built((0,) * 1000, 0)),), ("f",))
        self.assertEqual(program_text(found)[-5:], " alm)")
        self.assertEqual(kind_text(kind_of(FREE, (("f", built((0,) * 1000, 0)),), found)), "a > " * 1000 + "a")
        self.assertEqual(program_text(standard((("x", 0),) * 3 + ("y",))), "[a:a] [b:a] [c:a] y")

    def test_many_within_one_another(self):
        self.assertEqual(program_text(("@",) * 4000 + ("f",) + ("x",) * 4000), "(" * 4000 + "f" + " x)" * 4000)
        self.assertEqual(program_text(("@", "f") * 4000 + ("x",)), "(f " * 4000 + "x" + ")" * 4000)
        self.assertEqual(program_text((("x", 0),) * 4000 + ("x",)), "[x:a] " * 4000 + "x")


if __name__ == "__main__":
    unittest.main()
