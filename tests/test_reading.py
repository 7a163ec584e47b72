"""9.1: kinds and programs that are read from their texts."""

import itertools
import random
import unittest

from usecounts.errors import BadText, NoKind, NoProgram
from usecounts.kinds import built, is_kind
from usecounts.programs import is_program
from usecounts.reading import read_kind, read_program
from usecounts.texts import kind_text, program_text
from tests import reference
from tests.odd_things import odd_integers, odd_things
from tests.test_kinds import balanced, small_kinds
from tests.test_tables import some_kind

SIGNS = "".join(chr(code) for code in range(32, 127)) + "\n"


class Prefixes:
    """What may stand at a place of a text: another way of reading, by sets of what is still to come.

    What is still to come is a tuple: signs, and "K" for a kind, "R" for what
    stands behind a left's arrow, "P" for a program, and "N" and a number for the
    rest of a name.
    """

    def __init__(self, first):
        self.ways = {(first,)}

    def opened(self, way):
        """The ways that begin with a sign."""
        if not way:
            return {way}
        head, rest = way[0], way[1:]
        if head == "K":
            return {("letter",) + rest, ("letter", " ", ">", " ", "K") + rest, ("(", "pair", ")", " ", ">", " ", "K") + rest}
        if head == "pair":
            return self.opened(("letter", " ", ">", " ", "K") + rest) | self.opened(("(", "pair", ")", " ", ">", " ", "K") + rest)
        if head == "P":
            return {("name",) + rest, ("(", "P", " ", "P", ")") + rest, ("[", "name", ":", "K", "]", " ", "P") + rest}
        if head == "more":
            return {("name", way[1]) + rest[1:]} | self.opened(rest[1:]) if way[1] > 0 else self.opened(rest[1:])
        return {way}

    def read(self, sign):
        found = set()
        for way in {inner for way in self.ways for inner in self.opened(way)}:
            if way and way[0] == "letter" and sign.isalpha() and sign.islower():
                found.add(way[1:])
            elif way and way[0] == "name" and sign.isalpha() and sign.islower():
                left = way[1] if len(way) > 1 and isinstance(way[1], int) else 8
                rest = way[2:] if len(way) > 1 and isinstance(way[1], int) else way[1:]
                found.add(("more", left - 1) + rest)
            elif way and way[0] == sign:
                found.add(way[1:])
        self.ways = found
        return bool(found)

    def is_over(self):
        return any(way == () or way[0] == "more" and len(way) == 2 for way in self.ways)


def bad_index(first, text):
    """The index of the first sign at which no text goes on so; None for a whole text."""
    reading = Prefixes(first)
    for at, sign in enumerate(text):
        if not reading.read(sign):
            return at
    return None if reading.is_over() else len(text)


def with_one_another(chance, text, many):
    """Texts with a sign another one, left out or put in."""
    for _ in range(many):
        at = chance.randrange(len(text) + 1)
        sign = chance.choice(SIGNS) if chance.random() < 0.3 else chance.choice("ab >()[]:z \nA@")
        yield text[:at] + sign + text[at:]
        yield text[:at] + sign + text[at + 1:]
        yield text[:at] + text[at + 1:]
        yield text[:at]


class ReadKindTest(unittest.TestCase):

    def refused(self, text, index):
        with self.assertRaises(BadText) as caught:
            read_kind(text)
        self.assertIs(caught.exception.__class__, BadText)
        self.assertEqual(caught.exception.index, index, text)

    def test_there_and_back(self):
        chance = random.Random(75)
        kinds = list(range(26)) + small_kinds(2) + [some_kind(chance, chance.randrange(1, 30)) for _ in range(300)] + [balanced(60)]
        kinds += [built((0,) * 30, 1), ((((0, 1), 2), 3), 4), (0, (1, (2, 3)))]
        for kind in kinds:
            self.assertEqual(read_kind(kind_text(kind)), kind)

    def test_bad_texts(self):
        rows = [("", 0), ("A", 0), (" ", 0), (" a", 0), ("a ", 2), ("a >", 3), ("a > ", 4), ("a > b ", 6), ("a  > b", 2), ("a >  b", 4), ("a> b", 1), ("a >b", 3),
                ("ab", 1), ("(a)", 2), ("(a > b)", 7), ("(a > b) ", 8), ("(a > b) > c)", 11), ("((a > b) > c", 12), ("((a > b) > c)", 13), ("((a > b)) > c", 8),
                ("a > (b)", 6), ("a > (b > c)", 11), ("()", 1), (")", 0), ("(", 1), ("a\n", 1), ("\na", 0), ("a > b\n", 5), ("a - b", 2), ("[a]", 0),
                ("a > B", 4), ("a > 1", 4), ("0", 0), ("a >> b", 3), ("(a > b)> c", 7), ("(a > b) c", 8), ("( a > b) > c", 1), ("(a > b ) > c", 7)]
        for text, index in rows:
            self.refused(text, index)
            self.assertEqual(bad_index("K", text), index, text)

    def test_one_sign_another_one(self):
        chance = random.Random(76)
        many = {True: 0, False: 0}
        for _ in range(150):
            text = kind_text(some_kind(chance, chance.randrange(1, 9)))
            for changed in with_one_another(chance, text, 12):
                index = bad_index("K", changed)
                many[index is None] += 1
                if index is None:
                    self.assertEqual(kind_text(read_kind(changed)), changed)
                else:
                    self.refused(changed, index)
        self.assertGreater(min(many.values()), 100)

    def test_all_short_texts(self):
        for many in range(6):
            for signs in itertools.product("a >()", repeat=many):
                text = "".join(signs)
                index = bad_index("K", text)
                if index is None:
                    self.assertEqual(kind_text(read_kind(text)), text)
                else:
                    self.refused(text, index)

    def test_no_strings(self):
        for thing in odd_things() + odd_integers():
            if not isinstance(thing, str):
                self.refused(thing, -1)

    def test_too_great(self):
        for letters, told in ((59, True), (60, True), (61, False), (200, False)):
            kind = balanced(letters)
            self.assertIs(is_kind(kind), told)
            if told:
                self.assertEqual(read_kind(kind_text(kind)), kind)
            else:
                with self.assertRaises(NoKind) as caught:
                    read_kind(kind_text(kind))
                self.assertIs(caught.exception.__class__, NoKind)
        for deep, told in ((30, True), (31, False)):
            for kind in (built((0,) * deep, 0), ):
                self.assertIs(is_kind(kind), told)
                if told:
                    self.assertEqual(read_kind(kind_text(kind)), kind)
                else:
                    self.assertRaises(NoKind, read_kind, kind_text(kind))
            text = "a"
            for _ in range(deep):
                text = ("(" + text + ")" if len(text) > 1 else text) + " > b"
            if told:
                self.assertEqual(kind_text(read_kind(text)), text)
            else:
                self.assertRaises(NoKind, read_kind, text)

    def test_too_great_and_wrong_further_on(self):
        text = "a > " * 100 + "a"
        self.assertRaises(NoKind, read_kind, text)
        self.refused(text + " ", len(text) + 1)
        self.refused(text + ")", len(text))
        self.refused(text[:-1], len(text) - 1)
        self.refused(text + " > (a)", len(text) + 5)

    def test_thousands_of_brackets(self):
        self.refused("(" * 20000, 20000)
        self.refused("(" * 9000 + ")" * 9000, 9000)
        text = "(" * 2800 + "a > b" + ") > a" * 2800
        self.assertRaises(NoKind, read_kind, text)
        self.refused(text + ")", len(text))
        self.refused("(" + text, len(text) + 1)
        self.refused("[" * 20000, 0)


class ReadProgramTest(unittest.TestCase):

    def refused(self, text, index):
        with self.assertRaises(BadText) as caught:
            read_program(text)
        self.assertIs(caught.exception.__class__, BadText)
        self.assertEqual(caught.exception.index, index, text)

    def test_there_and_back(self):
        for program, _ in reference.some_programs(400, 77):
            self.assertEqual(read_program(program_text(program)), program)
        for program in [("a",), ("abcdefgh",), (("x", 0), "x"), (("abcdefgh", ((0, 1), 25)), ("y", 3), "@", "abcdefgh", "y"), ("@", "@", "a", "b", "@", "c", "d"),
                        ("@", ("x", 0), "x", ("y", (0, 1)), "@", "y", "y"), (("x", (0, 0)),) * 5 + ("@", ("x", 1), "x", "x")]:
            self.assertEqual(read_program(program_text(program)), program)

    def test_bad_texts(self):
        rows = [("", 0), (" ", 0), (" a", 0), ("a ", 1), ("A", 0), ("aB", 1), ("abcdefghi", 8), ("abcdefgh ", 8), ("(a b)", None), ("(a  b)", 3), ("(a b", 4), ("(a b ", 4),
                ("(a b))", 5), ("(a b) ", 5), ("(a)", 2), ("(a ", 3), ("()", 1), ("( a b)", 1), ("(a b )", 4), ("((a b) c)", None), ("((a b)c)", 6), ("(abcdefghi b)", 9),
                ("[x:a] x", None), ("[x:a]x", 5), ("[x:a]  x", 6), ("[x:a] ", 6), ("[x:a]", 5), ("[x:a", 4), ("[x:", 3), ("[x", 2), ("[", 1), ("[:a] x", 1), ("[x a] x", 2),
                ("[x: a] x", 3), ("[x:a ] x", 5), ("[x:(a)] x", 5), ("[x:a > b] x", None), ("[x:(a > b) > c] x", None), ("[x:(a > b)] x", 10), ("[abcdefghi:a] x", 9),
                ("[x:A] x", 3), ("[x:ab] x", 4), ("[x:a] x y", 7), ("([x:a] x y)", None), ("([x:a] x)", 8), ("(a [x:a] x)", None), ("a\n", 1), ("(a\nb)", 2), ("@", 0),
                ("@ a b", 0), ("[x:a) x", 4), ("x]", 1), ("[x:@] x", 3), ("(a b c)", 4), ("[x:a]\nx", 5)]
        for text, index in rows:
            self.assertEqual(bad_index("P", text), index, text)
            if index is None:
                self.assertEqual(program_text(read_program(text)), text)
            else:
                self.refused(text, index)

    def test_one_sign_another_one(self):
        chance = random.Random(78)
        many = {True: 0, False: 0}
        for program, _ in reference.some_programs(150, 79, fuel=6):
            text = program_text(program)
            for changed in with_one_another(chance, text, 10):
                index = bad_index("P", changed)
                many[index is None] += 1
                if index is None:
                    self.assertEqual(program_text(read_program(changed)), changed)
                else:
                    self.refused(changed, index)
        self.assertGreater(min(many.values()), 100)

    def test_all_short_texts(self):
        for signs, most in (("a ()", 6), ("a[]: ", 5)):
            for many in range(most + 1):
                for row in itertools.product(signs, repeat=many):
                    text = "".join(row)
                    index = bad_index("P", text)
                    if index is None:
                        self.assertEqual(program_text(read_program(text)), text)
                    else:
                        self.refused(text, index)

    def test_no_strings(self):
        for thing in odd_things() + odd_integers():
            if not isinstance(thing, str):
                self.refused(thing, -1)

    def test_too_great(self):
        for many in (199, 200, 2000):
            program = ("@", "f") * many + ("x",)
            text = program_text(program)
            if is_program(program):
                self.assertEqual(read_program(text), program)
            else:
                with self.assertRaises(NoProgram) as caught:
                    read_program(text)
                self.assertIs(caught.exception.__class__, NoProgram)
                self.refused(text[:-1], len(text) - 1)
                self.refused(text + ")", len(text))
        for many in (398, 399, 400, 3000):
            program = (("x", 0),) * many + ("x",)
            if is_program(program):
                self.assertEqual(read_program(program_text(program)), program)
            else:
                self.assertRaises(NoProgram, read_program, program_text(program))

    def test_kinds_too_great(self):
        for letters in (60, 61):
            program = (("x", balanced(letters)), "x")
            if is_program(program):
                self.assertEqual(read_program(program_text(program)), program)
            else:
                with self.assertRaises(NoProgram) as caught:
                    read_program(program_text(program))
                self.assertIs(caught.exception.__class__, NoProgram)
        for deep in (30, 31):
            text = "[x:" + "a > " * deep + "a] x"
            if deep == 30:
                self.assertEqual(program_text(read_program(text)), text)
            else:
                self.assertRaises(NoProgram, read_program, text)
                self.refused(text + "]", len(text))
                self.refused(text[:-2], len(text) - 2)

    def test_thousands_of_brackets(self):
        self.refused("(" * 20000, 20000)
        self.refused("(" * 6000 + "a" + ")" * 6000, 6001)
        text = "(" * 4900 + "a" + " b)" * 4900
        self.assertRaises(NoProgram, read_program, text)
        self.refused(text + ")", len(text))
        self.refused("[x:" + "(" * 10000, 10003)
        text = "(a " * 4900 + "b" + ")" * 4900
        self.assertRaises(NoProgram, read_program, text)
        self.refused(text[:-1], len(text) - 1)
        text = "[x:a] " * 3300 + "x"
        self.assertRaises(NoProgram, read_program, text)


if __name__ == "__main__":
    unittest.main()
