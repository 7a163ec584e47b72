"""3.1: steps, rests and rows."""

import random
import unittest

from usecounts.errors import CountsError, Faulty, NoHanded, NoProgram, NoStep, TooMany
from usecounts.judging import Book, fault, kind_of
from usecounts.kinds import built
from usecounts.lots import Lot, RawLot
from usecounts.programs import counts, is_program, is_same, open_names, standard
from usecounts.stepping import counts_ahead, is_row, rest, stepped, steps
from tests import reference
from tests.odd_things import odd_integers, odd_things
from tests.test_judging import no_named
from tests.test_programs import no_programs

FREE = Book(Lot("free", ()), ())
HANDED = tuple(reference.NAMED.items())


def wide(many, name="x"):
    """The words of a name that is handed another one so often."""
    return ("@",) * many + ("g",) + (name,) * many


def grown(standing, words):
    """A step whose taken name stands so often and is handed something with so many words, an odd number."""
    return ("@", ("x", 0)) + wide(standing) + ("@", "f") * (words // 2) + ("y",)


class StepsTest(unittest.TestCase):

    def test_ordinary(self):
        self.assertEqual(steps(("x",)), ())
        self.assertEqual(steps((("x", 0), "x")), ())
        self.assertEqual(steps(("@", "x", ("x", 0), "x")), ())
        self.assertEqual(steps(("@", ("x", 0), "x", "y")), (0,))
        self.assertEqual(steps((("z", 0), "@", ("x", 0), "@", ("y", 0), "y", "x", "@", ("w", 1), "w", "y")), (1, 3, 7))
        # A use whose f is a use, whose f is a take.
        self.assertEqual(steps(("@", "@", ("x", 0), ("y", 0), "x", "a", "b")), (1,))
        # Kinds are not looked at.
        self.assertEqual(steps(("@", ("x", 0), "@", "x", "x", ("y", 5), "y")), (0,))

    def test_of_any_programs(self):
        for program, _ in reference.some_programs(400, 21):
            self.assertEqual(list(steps(program)), reference.steps(reference.term(program)))

    def test_no_program(self):
        for thing in no_programs():
            with self.assertRaises(NoProgram) as caught:
                steps(thing)
            self.assertIs(caught.exception.__class__.__mro__[1], CountsError)


class SteppedTest(unittest.TestCase):

    def test_ordinary(self):
        self.assertEqual(stepped(("@", ("x", 0), "x", "y"), 0), ("y",))
        self.assertEqual(stepped(("@", ("x", 0), "z", "y"), 0), ("z",))
        self.assertEqual(stepped(("@", ("x", 0), "@", "x", "x", "@", "f", "y"), 0), ("@", "@", "f", "y", "@", "f", "y"))
        self.assertEqual(stepped(("@", "@", ("x", 0), ("y", 0), "x", "a", "b"), 1), ("@", ("c", 0), "a", "b"))
        self.assertEqual(stepped((("q", 0), "@", ("x", 0), "@", "x", "q", "r"), 1), (("a", 0), "@", "r", "a"))

    def test_nothing_open_in_what_is_handed_is_taken(self):
        # y is open in what is handed and taken in the body.
        self.assertEqual(stepped(("@", ("x", 0), ("y", 0), "x", "y"), 0), (("a", 0), "y"))
        self.assertEqual(stepped((("y", 0), "@", ("x", 0), ("y", 1), "@", "x", "y", "y"), 1), (("a", 0), ("b", 1), "@", "a", "b"))
        # The name that the step takes stands open in what is handed.
        self.assertEqual(stepped(("@", ("x", 0), "@", "x", "x", "x"), 0), ("@", "x", "x"))
        self.assertEqual(stepped((("x", 0), "@", ("x", 1), ("x", 2), "x", "x"), 1), (("a", 0), ("b", 2), "b"))
        # The take in the body hides the name of the step's take.
        self.assertEqual(stepped(("@", ("x", 0), "@", "x", ("x", 1), "x", "y"), 0), ("@", "y", ("a", 1), "a"))
        # An open name a would be taken by a standard name.
        self.assertEqual(stepped(("@", ("x", 0), ("a", 0), "x", "a"), 0), (("b", 0), "a"))

    def test_takes_in_what_is_handed(self):
        program = ("@", ("f", (0, 0)), "@", "f", "@", "f", "y", ("z", 0), "z")
        self.assertEqual(stepped(program, 0), ("@", ("a", 0), "a", "@", ("b", 0), "b", "y"))
        # What is handed is put into itself by no step: each copy has takes of its own.
        program = ("@", ("f", 5), "@", "f", "f", ("z", 0), "@", "z", "z")
        again = stepped(stepped(program, 0), 0)
        self.assertEqual(again, stepped(program, 0))

    def test_of_any_programs(self):
        many = 0
        for program, _ in reference.some_programs(400, 22, fuel=24):
            for place in steps(program):
                found = stepped(program, place)
                self.assertEqual(reference.term(found), reference.stepped(reference.term(program), place))
                self.assertEqual(found, standard(found))
                many += 1
        self.assertGreater(many, 200)

    def test_errors(self):
        program = ("@", ("x", 0), "@", "x", "z", "@", "y", ("z", 0), "z")
        for call in (stepped, counts_ahead):
            for thing in no_programs():
                self.assertRaises(NoProgram, call, thing, 0)
                self.assertRaises(NoProgram, call, thing, None)
            for thing in [1, 2, 3, 4, 5, 6, 7, 8, 9, -1, -9, True, False, None, "0", (0,), [0]] + odd_things() + odd_integers():
                with self.assertRaises(NoStep) as caught:
                    call(program, thing)
                self.assertIs(caught.exception.__class__, NoStep)
            self.assertRaises(NoStep, call, ("x",), 0)
            self.assertRaises(NoStep, call, ("x",), -1)
            self.assertRaises(NoStep, call, ("@", "x", "x"), 0)
        self.assertEqual(stepped(program, 0), ("@", "@", "y", ("a", 0), "a", "z"))

    def test_to_5000_words(self):
        # 49 standings of 99 words and 50 words beside them.
        program = grown(50, 97)
        self.assertIs(is_program(program), True)
        self.assertEqual(len(stepped(program, 0)), 51 + 50 * 97)
        exact = (("y", 0),) + ("@", "f") * 24 + grown(50, 97)
        self.assertEqual(len(stepped(exact, 49)), 50 - 1 + 51 + 50 * 97)
        for more, told in ((49, 4999), (50, 5000), (51, None), (70, None)):
            program = (("w", 0),) * (more + 49) + grown(50, 97)
            if told is None:
                with self.assertRaises(TooMany) as caught:
                    stepped(program, more + 49)
                self.assertEqual(caught.exception.most, 5000)
            else:
                self.assertEqual(len(stepped(program, more + 49)), told)
        self.assertEqual(counts_ahead(grown(70, 97), 0), {"g": 1, "f": 70 * 48, "y": 70})

    def test_great_programs(self):
        program = stepped(grown(50, 97), 0)
        program = ("@", ("x", 0), "@", "x", "y") + program
        self.assertEqual(stepped(program, 0), ("@",) + program[5:] + ("y",))
        deep = ("@", ("x", 0)) * 1600 + ("x",) + ("y",) * 1600
        self.assertEqual(len(steps(deep)), 1600)
        self.assertEqual(len(stepped(deep, 0)), 4798)
        self.assertEqual(counts_ahead(deep, 4), {"y": 1599})


class CountsAheadTest(unittest.TestCase):

    def test_ordinary(self):
        self.assertEqual(counts_ahead(("@", ("x", 0), "x", "y"), 0), {"y": 1})
        self.assertEqual(counts_ahead(("@", ("x", 0), "z", "y"), 0), {"y": 0, "z": 1})
        self.assertEqual(counts_ahead(("@", ("x", 0), "@", "x", "@", "x", "y", "@", "y", "z"), 0), {"y": 3, "z": 2})
        self.assertEqual(counts_ahead(("@", "y", "@", ("x", 0), "w", "@", "y", "z"), 2), {"y": 1, "z": 0, "w": 1})
        # Open and taken names that are called alike.
        self.assertEqual(counts_ahead((("y", 0), "@", ("x", 0), "@", "x", "x", "y"), 1), {})
        self.assertEqual(counts_ahead(("@", ("x", 0), "@", "x", "x", "x"), 0), {"x": 2})
        self.assertEqual(counts_ahead(("@", ("x", 0), ("x", 0), "x", "x"), 0), {"x": 0})

    def test_agrees_with_what_comes(self):
        for program, _ in reference.some_programs(400, 23, fuel=24):
            for place in steps(program):
                found = counts_ahead(program, place)
                self.assertEqual(tuple(sorted(found)), open_names(program))
                behind = counts(stepped(program, place))
                self.assertEqual(found, {name: behind.get(name, 0) for name in open_names(program)})

    def test_new_each_time(self):
        program = ("@", ("x", 0), "x", "y")
        counts_ahead(program, 0).clear()
        self.assertEqual(counts_ahead(program, 0), {"y": 1})


class SecondFactTest(unittest.TestCase):

    def test_right_programs_stay_right(self):
        lots = [Lot("once", ()), Lot("loan", ()), Lot("more", (2,)), Lot("more", (1,)), Lot("more", (3, 5))]
        many = 0
        for program, kind in reference.some_programs(1500, 24, fuel=24):
            for lot in lots:
                handed = tuple((name, HANDED[at][1]) for at, (name, _) in enumerate(HANDED) if lot.has(counts(program).get(name, 0)))
                book = Book(lot, tuple(item for item in HANDED if item not in handed))
                if fault(book, handed, program) is not None:
                    continue
                for place in steps(program):
                    self.assertEqual(kind_of(book, handed, stepped(program, place)), kind)
                    many += 1
        self.assertGreater(many, 300)


class RestTest(unittest.TestCase):

    def test_ordinary(self):
        self.assertEqual(rest(FREE, (("y", 0),), ("@", ("x", 0), "x", "y")), ("y",))
        self.assertEqual(rest(FREE, (), (("q", 0), "q")), (("a", 0), "a"))
        self.assertEqual(rest(FREE, (("f", (0, 0)),), (("y", 0), "@", ("x", 0), "@", "f", "x", "@", ("x", 0), "x", "y")), (("a", 0), "@", "f", "a"))
        # A use becomes a step by the step in its f.
        program = ("@", "@", ("x", 0), ("y", 0), "x", "a", "b")
        self.assertEqual(rest(FREE, (("a", 0), ("b", 0)), program), ("a",))
        # And by one within one that is handed.
        program = ("@", ("f", (0, 0)), "@", "f", "@", "f", "z", ("y", 0), "@", "@", "g", "y", "y")
        told = ("@", "@", "g", "@", "@", "g", "z", "z", "@", "@", "g", "z", "z")
        self.assertEqual(rest(FREE, HANDED, program), told)

    def test_of_any_programs(self):
        for program, kind in reference.some_programs(500, 25, fuel=30):
            found = rest(FREE, HANDED, program)
            self.assertEqual(reference.term(found), reference.rest(reference.term(program)))
            self.assertEqual((steps(found), standard(found)), ((), found))
            self.assertEqual(kind_of(FREE, HANDED, found), kind)

    def test_steps_in_any_order(self):
        chance = random.Random(3)
        for program, _ in reference.some_programs(150, 26, fuel=30):
            told = rest(FREE, HANDED, program)
            now, row = program, []
            while steps(now):
                row.append(chance.choice(steps(now)))
                now = stepped(now, row[-1])
            self.assertEqual(now if row else standard(now), told)
            self.assertIs(is_row(program, told, tuple(row)), True)

    def test_with_a_raw_lot(self):
        raw = RawLot((False, True, True), (False,))
        program = (("y", 0), "@", ("x", 0), "@", "@", "g", "x", "@", ("x", 0), "x", "y", "y")
        self.assertIsNone(fault(Book(raw, (("g", (0, (0, 0))),)), (), program))
        self.assertEqual(rest(Book(raw, (("g", (0, (0, 0))),)), (), program), (("a", 0), "@", "@", "g", "a", "a"))
        grows = ("@", ("x", 0), "@", "@", "g", "x", "x", "@", "@", "g", "y", "y")
        book = Book(raw, (("g", (0, (0, 0))),))
        self.assertIsNone(fault(book, (("y", 0),), grows))
        found = rest(book, (("y", 0),), grows)
        self.assertEqual(fault(book, (("y", 0),), found), ("handed", "y", 4))

    def test_errors_in_order(self):
        for thing in no_named(6):
            self.assertRaises(NoHanded, rest, FREE, thing, ())
        for thing in no_programs():
            self.assertRaises(NoProgram, rest, FREE, (), thing)
        with self.assertRaises(Faulty) as caught:
            rest(FREE, (), grown(50, 99))
        self.assertEqual(caught.exception.fault, ("open", 52))
        with self.assertRaises(Faulty) as caught:
            rest(FREE, HANDED, ("@", "z", "z"))
        self.assertEqual(caught.exception.fault, ("kind", 0))

    def test_to_5000_words_on_the_way(self):
        for more, told in ((49, 5000), (50, None)):
            handed = (("g", built((0,) * 50, 0)), ("f", (0, 0)), ("y", 0))
            program = (("w", 0),) * (more + 50) + grown(50, 97)
            if told is None:
                with self.assertRaises(TooMany) as caught:
                    rest(FREE, handed, program)
                self.assertEqual(caught.exception.most, 5000)
            else:
                self.assertEqual(len(rest(FREE, handed, program)), told)
            # The rest is short, but what stands on the way is not.
            around = ("@", ("k", (0, 0)), "y") + (("v", 0),) + ("@", ("u", 0), "y") + program[more + 50:]
            self.assertEqual(rest(FREE, handed, around), ("y",))
            inside = ("@",) + (("u", built((0,) * (more + 50), 0)),) + ("y",) + program
            self.assertEqual(rest(FREE, handed, inside), ("y",))
        # Always the step at the least place: what is handed is put in as it is.
        for many, told in ((47, 101), (48, None)):
            program = ("@", ("x", 0)) + wide(50) + ("@", ("v", built((0,) * (50 - many), 0)), "y") + wide(many, "y")
            if told is None:
                self.assertRaises(TooMany, rest, FREE, handed, program)
            else:
                self.assertEqual(len(rest(FREE, handed, program)), told)

    def test_more_than_5000_words_at_first(self):
        handed = (("f", (0, 0)), ("y", 0))
        self.assertEqual(len(rest(FREE, handed, ("@", "f") * 2499 + ("y",))), 4999)
        self.assertEqual(len(rest(FREE, handed, (("x", 0),) + ("@", "f") * 2499 + ("y",))), 5000)
        self.assertRaises(TooMany, rest, FREE, handed, ("@", "f") * 2500 + ("y",))
        self.assertRaises(TooMany, rest, FREE, handed, ("@", ("x", 0), "y") + ("@", "f") * 2500 + ("y",))

    def test_many_steps_within_one_another(self):
        program = ("@", ("x", 0)) * 130 + ("x",) + ("y",) * 130
        self.assertEqual(rest(FREE, (("y", 0),), program), ("y",))
        program = ("@", ("x", 0), "x") * 130 + ("y",)
        self.assertEqual(rest(FREE, (("y", 0),), program), ("y",))
        program = ("@", ("x", 0)) * 1600 + ("x",) + ("y",) * 1600
        self.assertEqual(rest(FREE, (("y", 0),), program), ("y",))


class IsRowTest(unittest.TestCase):

    def setUp(self):
        self.program = ("@", ("x", 0), "@", ("y", 0), "@", "y", "x", "x", "@", ("z", 0), "z", "w")

    def test_rows(self):
        program = self.program
        self.assertEqual(steps(program), (0, 2, 8))
        self.assertIs(is_row(program, program, ()), True)
        self.assertIs(is_row(program, standard(program), ()), True)
        told = ("@", "w", "w")
        for row in [(0, 0, 1, 2), (8, 2, 0), (2, 0, 1, 2), (2, 6, 0), (0, 0, 2, 1), (8, 0, 0), (0, 2, 0, 1)]:
            found = program
            for place in row:
                if place not in steps(found):
                    break
                found = stepped(found, place)
            self.assertIs(is_row(program, told, row), found == told, row)
        self.assertIs(is_row(program, told, (8, 2, 0)), True)

    def test_changed_rows(self):
        chance = random.Random(8)
        many = 0
        for program, _ in reference.some_programs(200, 27, fuel=30):
            now, row = program, ()
            while steps(now) and len(row) < 6:
                row += (chance.choice(steps(now)),)
                now = stepped(now, row[-1])
            self.assertIs(is_row(program, now, row), True)
            self.assertIs(is_row(program, now, list(row)), False)
            changed = [row[:at] + row[at + 1:] for at in range(len(row))]
            changed += [row[:at] + (place,) + row[at:] for at in range(len(row) + 1) for place in range(len(program))]
            changed += [row[:at] + (place,) + row[at + 1:] for at in range(len(row)) for place in range(len(program))]
            for other in changed:
                found = reference.term(program)
                for place in other:
                    if place not in reference.steps(found):
                        found = None
                        break
                    found = reference.stepped(found, place)
                self.assertIs(is_row(program, now, other), found == reference.term(now))
                many += 1
        self.assertGreater(many, 500)

    def test_things(self):
        other = stepped(self.program, 0)
        self.assertIs(is_row(self.program, other, (0,)), True)
        rows = [[0], 0, (False,), ("0",), (None,), ((0,),), ([0],), (0, None), (-12,), (-1,), (12,), (10 ** 29,), (b"0",), "0", b"0", {0: 0}]
        for thing in rows + odd_things() + odd_integers():
            self.assertIs(is_row(self.program, other, thing), False)
            if thing != ():
                self.assertIs(is_row(self.program, self.program, thing), False)
        self.assertIs(is_row(("@", ("x", 0), "x", "y"), ("y",), (False,)), False)

    def test_no_program(self):
        for thing in no_programs():
            for row in ((), None, (0,)):
                self.assertRaises(NoProgram, is_row, thing, ("x",), row)
                self.assertRaises(NoProgram, is_row, ("x",), thing, row)

    def test_a_step_to_itself(self):
        program = ("@", ("f", 5), "@", "f", "f", ("z", 0), "@", "z", "z")
        other = ("@", ("y", 0), "@", "y", "y", ("x", 0), "@", "x", "x")
        for many in (1, 2, 7):
            self.assertIs(is_row(program, other, (0,) * many), True)
        self.assertIs(is_row(program, other, ()), False)
        self.assertIs(is_row(program, other, (0,) * 500), True)
        self.assertIs(is_row(program, other, (0,) * 500 + (1,)), False)

    def test_too_many_words_on_the_way(self):
        lost = ("@", ("v", 0), "y")
        for many, told in ((50, True), (51, False)):
            program = lost + (("w", 0),) * (many + 46) + grown(50, 97)
            self.assertIs(is_row(program, ("y",), (0,)), True)
            self.assertIs(is_row(program, ("y",), (many + 49, 0)), told)
        for many, told in ((2497, True), (2498, False)):
            program = ("@", ("x", 0), "y") + (("x", 0),) + ("@", "f") * many + ("y",)
            self.assertIs(is_row(program, ("y",), (0,)), len(program) <= 5000)
            self.assertIs(is_row(program[3:], program[3:], ()), True)
            self.assertIs(len(program) <= 5000, told)

    def test_great_programs(self):
        great = stepped(grown(50, 97), 0)
        self.assertIs(is_row(grown(50, 97), great, (0,)), True)
        self.assertIs(is_row(great, great, ()), True)
        self.assertIs(is_row(("@", ("x", 0), "x") + great, great, (0,)), True)
        self.assertIs(is_same(great, great), True)


if __name__ == "__main__":
    unittest.main()
