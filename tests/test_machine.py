"""4.1 and 4.2: the machine."""

import random
import unittest

from usecounts.errors import CountsError, Faulty, IsOver, NoFunctions, NoProgram, NotFlat, NothingDone, TooMany
from usecounts.judging import Book, fault
from usecounts.kinds import built
from usecounts.lots import Lot, RawLot
from usecounts.machine import Run, outcome, worth
from usecounts.programs import is_program
from usecounts.stepping import plain, stepped
from tests import reference
from tests.odd_things import odd_integers, odd_things
from tests.test_programs import no_programs

TOOLS = (("two", (0, (0, 0))), ("one", 0), ("s", (0, 0)), ("q", (1, (0, 1))), ("z", 1))
FREE, DUTY, ODD = Lot("free", ()), Lot("more", (1,)), Lot("more", (2,))
BOOK = Book(FREE, TOOLS)
FUNCTIONS = {"two": lambda told: ("two",) + told, "one": lambda told: "one", "s": lambda told: ("s",) + told, "q": lambda told: ("q", told), "z": len}


class SlowRun:
    """The machine as 4.2 tells it, word by word; what lies on the pile and in frames is told whole at each move."""

    def __init__(self, program, tools):
        self.program, self.tools = program, tools
        self.place, self.around, self.pile, self.frames, self.tokens, self.found = 0, {}, [], [], [], None

    def end(self, place):
        if self.program[place] == "@":
            return self.end(self.end(place + 1))
        return self.end(place + 1) if isinstance(self.program[place], tuple) else place + 1

    def taker(self, place):
        takes = [at for at in range(place) if isinstance(self.program[at], tuple) and place < self.end(at)]
        takes = [at for at in takes if self.program[at][0] == self.program[place]]
        return takes[-1] if takes else None

    def enter(self, closure):
        self.place, self.around, token = closure
        self.tokens[token] += 1

    def move(self):
        word = self.program[self.place]
        if word == "@":
            self.pile.append((self.end(self.place + 1), dict(self.around), len(self.tokens)))
            self.tokens.append(0)
            self.place += 1
            return "use"
        if isinstance(word, tuple):
            self.around = {**self.around, self.place: self.pile.pop()}
            self.place += 1
            return "take"
        if self.taker(self.place) is not None:
            self.enter(self.around[self.taker(self.place)])
            return "name"
        self.frames.append([word, [], self.pile[::-1]])
        self.pile = []
        while self.frames:
            if self.frames[-1][2]:
                self.enter(self.frames[-1][2].pop(0))
                return "tool"
            tool, outcomes, _ = self.frames.pop()
            told = (tool,) + tuple(word for one in outcomes for word in one)
            if self.frames:
                self.frames[-1][1].append(told)
            else:
                self.found, self.place = told, None
        return "tool"

    def told(self):
        state = (self.place, tuple(closure[0] for closure in self.pile), tuple(frame[0] for frame in self.frames))
        return state, tuple(self.tokens), self.found


def flat_programs(many, seed, fuel=30):
    """Programs that make a letter of the tools, right where every number is held."""
    maker, found = reference.Maker(seed), []
    while len(found) < many:
        program = maker.program(maker.chance.randrange(2), dict(TOOLS), fuel)
        if program is not None:
            found.append(program)
    return found


def doubled(times, program=("one",)):
    """A program that makes two of two of .. a program, so often."""
    return ("@", ("d", (0, 0))) + ("@", "d") * times + program + (("x", 0), "@", "@", "two", "x", "x")


def led(program, book=BOOK):
    run = Run(book, program)
    while run.outcome() is None:
        run.move()
    return run


def with_moves(wanted):
    """A program whose run has just so many moves."""
    program, moves = ("one",), 1
    for times in reversed(range(12)):
        size = led(doubled(times)).moves()
        while moves + 3 + size <= wanted - 10:
            program, moves = ("@", "@", "two") + doubled(times) + program, moves + 3 + size
    while moves != wanted:
        if (wanted - moves) % 2 == 1:
            program, moves = ("@", ("x", 0), "x") + program, moves + 3
        else:
            program, moves = ("@", "s") + program, moves + 2
    return program


class OutcomeTest(unittest.TestCase):

    def test_ordinary(self):
        book = Book(DUTY, TOOLS[:2])
        self.assertEqual(outcome(book, ("one",)), ("one",))
        self.assertEqual(outcome(book, ("@", "@", "two", "one", "one")), ("two", "one", "one"))
        self.assertEqual(outcome(book, ("@", ("x", 0), "@", "@", "two", "x", "x", "one")), ("two", "one", "one"))
        self.assertEqual(outcome(book, ("@", ("f", (0, 0)), "@", "f", "@", "f", "one", "@", "two", "one")), ("two", "one", "two", "one", "one"))
        # A tool's name that is taken is no tool.
        self.assertEqual(outcome(BOOK, ("@", ("one", 0), "@", "s", "one", "@", "s", "one")), ("s", "s", "one"))
        self.assertEqual(led(("@", ("one", 0), "@", "s", "one", "@", "s", "one")).tokens(), (1, 1, 1))

    def test_is_the_plain_program_without_uses(self):
        for program in flat_programs(500, 51):
            told = tuple([word for word in plain(BOOK, (), program) if word != "@"])
            self.assertEqual(outcome(BOOK, program), told)

    def test_errors_in_order(self):
        pairs = Book(FREE, (("h", ((0, 0), 0)), ("one", 0)))
        for thing in no_programs():
            for book in (BOOK, pairs):
                for call in (lambda: outcome(book, thing), lambda: worth(book, thing, None), lambda: Run(book, thing)):
                    with self.assertRaises(NoProgram) as caught:
                        call()
                    self.assertIs(caught.exception.__class__.__mro__[1], CountsError)
        for program in [("x",), ("@", "one", "one"), (("x", 0), "y"), ("@", "h", "k")]:
            for book in (Book(Lot("once", ()), TOOLS[1:2]), Book(Lot("once", ()), pairs.tools)):
                for call in (lambda: outcome(book, program), lambda: worth(book, program, None), lambda: Run(book, program)):
                    with self.assertRaises(Faulty) as caught:
                        call()
                    self.assertEqual(caught.exception.fault, fault(book, (), program))
        for book, program in [
            (pairs, ("one",)), (BOOK, ("two",)), (BOOK, (("x", 0), "x")), (BOOK, ("@", "two", "one")), (Book(FREE, (("h", (0, ((0, 0), 0))), ("one", 0))), ("one",)),
            (pairs, ("h",)), (pairs, ("@", "h", ("x", 0), "x")), (Book(FREE, ()), (("x", 0), "x")), (BOOK, (("x", 0),) + with_moves(30)),
        ]:
            for call in (lambda: outcome(book, program), lambda: worth(book, program, None), lambda: Run(book, program)):
                with self.assertRaises(NotFlat) as caught:
                    call()
                self.assertIs(caught.exception.__class__, NotFlat)

    def test_a_count_that_is_not_held(self):
        program = ("@", ("x", 0), "@", "@", "two", "x", "x", "one")
        with self.assertRaises(Faulty) as caught:
            outcome(Book(ODD, TOOLS), program)
        self.assertEqual(caught.exception.fault, ("count", 1, 2))

    def test_to_20000_moves(self):
        for moves in (19998, 19999, 20000):
            program = with_moves(moves)
            found = led(program)
            self.assertEqual(found.moves(), moves)
            self.assertEqual(outcome(BOOK, program), found.outcome())
        for moves in (20001, 20002, 20003, 25000):
            program = with_moves(moves)
            for call in (lambda: outcome(BOOK, program), lambda: worth(BOOK, program, FUNCTIONS)):
                with self.assertRaises(TooMany) as caught:
                    call()
                self.assertEqual(caught.exception.most, 20000)
        self.assertEqual(led(with_moves(20001)).moves(), 20001)

    def test_great_programs(self):
        tree = ("@", "@", "two", "one") * 22 + ("one",)
        self.assertEqual(len(tree), 89)
        wide = ("@", ("x", 0)) + ("@", "@", "two", "x") * 44 + ("x",) + tree
        self.assertIs(is_program(wide), True)
        found = outcome(BOOK, wide)
        self.assertEqual((len(found), found.count("one")), (44 + 45 * 45, 45 * 23))
        deep = ("@", ("x", 0)) * 30 + ("@", "@", "two", "x") * 10 + ("x",) + ("one",) * 30
        self.assertEqual(outcome(BOOK, deep), ("two", "one") * 10 + ("one",))
        names = tuple("abcdefghijklmnopqrstuvwxyzabcd")
        inner = tuple(word for name in names[4:] for word in ("@", "@", "two", name)) + ("one",)
        deep = ("@",) * 30 + tuple((name, 0) for name in names) + inner + ("one",) * 30
        self.assertEqual(outcome(BOOK, deep), ("two", "one") * 26 + ("one",))
        # An outcome whose tools stand thousands within one another.
        chain = ("@", "s") * 5000 + ("one",)
        self.assertEqual(outcome(BOOK, chain), ("s",) * 5000 + ("one",))

    def test_returned_programs(self):
        program = stepped(("@", ("x", 0)) + ("@", "@", "two", "x") * 49 + ("x",) + ("@", "s") * 45 + ("one",), 0)
        self.assertEqual(len(program), 49 * 3 + 50 * 91)
        self.assertEqual(outcome(BOOK, program).count("s"), 50 * 45)


class WorthTest(unittest.TestCase):

    def test_ordinary(self):
        book = Book(DUTY, TOOLS[:2])
        functions = {"two": lambda told: told[0] + told[1], "one": lambda told: 1 + len(told)}
        self.assertEqual(worth(book, ("one",), functions), 1)
        self.assertEqual(worth(book, doubled(4), functions), 16)
        self.assertEqual(worth(BOOK, ("@", "@", "q", "z", "@", "s", "one"), FUNCTIONS), ("q", (0, ("s", "one"))))

    def test_each_call_in_order(self):
        for program in flat_programs(200, 52):
            calls = []

            def function(name):
                def call(told):
                    calls.append((name, told))
                    return len(calls)
                return call

            found = worth(BOOK, program, {name: function(name) for name, _ in TOOLS})
            words, wanted = list(outcome(BOOK, program)), []
            rooms = {"two": 2, "one": 0, "s": 1, "q": 2, "z": 0}

            def told_worth():
                name = words.pop(0)
                handed = tuple([told_worth() for _ in range(rooms[name])])
                wanted.append((name, handed))
                return len(wanted)

            self.assertEqual(found, told_worth())
            self.assertEqual(calls, wanted)

    def test_what_functions_return(self):
        for thing in odd_things():
            self.assertIs(worth(Book(FREE, (("one", 0),)), ("one",), {"one": lambda told: thing}), thing)
            found = worth(Book(FREE, TOOLS[1:3]), ("@", "s", "one"), {"one": lambda told: thing, "s": lambda told: told[0]})
            self.assertIs(found, thing)

    def test_errors_go_on(self):
        def wrong(error):
            raise error

        for error in (ValueError("x"), KeyError("x"), IndexError(3), StopIteration(), TooMany(1), NoFunctions(), ZeroDivisionError(), IsOver()):
            calls = []
            functions = dict(FUNCTIONS, one=lambda told: calls.append(1), s=lambda told: wrong(error))
            with self.assertRaises(error.__class__) as caught:
                worth(BOOK, ("@", "@", "two", "one", "@", "@", "two", "@", "s", "one", "one"), functions)
            self.assertIs(caught.exception, error)
            self.assertEqual(calls, [1, 1])

    def test_no_functions(self):
        rows = [
            {}, {"one": len}, dict(FUNCTIONS, more=len), {name: len for name in ("two", "one", "s", "q", "y")}, list(FUNCTIONS), tuple(FUNCTIONS.items()),
            {name: len for name, _ in TOOLS[1:]}, {0: len}, [FUNCTIONS], None, dict(FUNCTIONS, **{"": len}), {**FUNCTIONS, 1: len}, {**FUNCTIONS, None: len},
            {("one",): len, "two": len, "s": len, "q": len, "z": len},
        ]
        for thing in rows + odd_things() + odd_integers():
            for program in (("one",), with_moves(20001)):
                with self.assertRaises(NoFunctions) as caught:
                    worth(BOOK, program, thing)
                self.assertIs(caught.exception.__class__, NoFunctions)
            self.assertRaises(NotFlat, worth, BOOK, ("two",), thing)
            self.assertRaises(Faulty, worth, BOOK, ("x",), thing)

    def test_deep(self):
        functions = dict(FUNCTIONS, s=lambda told: told[0] + 1, one=lambda told: 0)
        self.assertEqual(worth(BOOK, ("@", "s") * 9000 + ("one",), functions), 9000)
        functions = dict(FUNCTIONS, two=lambda told: told[0] + told[1], one=lambda told: 1)
        self.assertEqual(worth(BOOK, ("@", "@", "two", "one") * 3000 + ("one",), functions), 3001)


class RunTest(unittest.TestCase):

    def test_e05_move_by_move(self):
        run = Run(Book(DUTY, TOOLS[:2]), ("@", ("x", 0), "@", "@", "two", "x", "x", "one"))
        rows = [
            ("use", 1, (7,), (), (0,)), ("take", 2, (), (), (0,)), ("use", 3, (6,), (), (0, 0)), ("use", 4, (6, 5), (), (0, 0, 0)),
            ("tool", 5, (), ("two",), (0, 0, 1)), ("name", 7, (), ("two",), (1, 0, 1)), ("tool", 6, (), ("two",), (1, 1, 1)),
            ("name", 7, (), ("two",), (2, 1, 1)), ("tool", None, (), (), (2, 1, 1)),
        ]
        self.assertEqual((run.state(), run.moves(), run.tokens(), run.outcome()), ((0, (), ()), 0, (), None))
        for at, (word, place, pile, frames, tokens) in enumerate(rows):
            self.assertIsNone(run.outcome())
            self.assertEqual(run.move(), word)
            self.assertEqual((run.state(), run.moves(), run.tokens()), ((place, pile, frames), at + 1, tokens))
        self.assertEqual(run.outcome(), ("two", "one", "one"))

    def test_held_against_a_slow_run(self):
        for program in flat_programs(300, 53) + [doubled(3), with_moves(60), doubled(2, doubled(1))]:
            run, slow = Run(BOOK, program), SlowRun(program, TOOLS)
            while slow.found is None:
                self.assertEqual((run.state(), run.tokens(), run.outcome()), slow.told())
                self.assertEqual(run.move(), slow.move())
            self.assertEqual((run.state(), run.tokens(), run.outcome()), slow.told())
            self.assertEqual(run.outcome(), outcome(BOOK, program))

    def test_is_over(self):
        run = led(doubled(2))
        told = (run.state(), run.moves(), run.tokens(), run.outcome())
        for _ in range(3):
            with self.assertRaises(IsOver) as caught:
                run.move()
            self.assertIs(caught.exception.__class__, IsOver)
            self.assertEqual((run.state(), run.moves(), run.tokens(), run.outcome()), told)
        run.back()
        self.assertEqual(run.move(), "tool")
        self.assertEqual((run.state(), run.moves(), run.tokens(), run.outcome()), told)

    def test_back_from_everywhere(self):
        for program in flat_programs(60, 54) + [doubled(3)]:
            run, rows, words = Run(BOOK, program), [], []
            while run.outcome() is None:
                rows.append((run.state(), run.moves(), run.tokens(), run.outcome()))
                words.append(run.move())
                told = (run.state(), run.moves(), run.tokens(), run.outcome())
                self.assertIsNone(run.back())
                self.assertEqual((run.state(), run.moves(), run.tokens(), run.outcome()), rows[-1])
                self.assertEqual(run.move(), words[-1])
                self.assertEqual((run.state(), run.moves(), run.tokens(), run.outcome()), told)
            for row in reversed(rows):
                run.back()
                self.assertEqual((run.state(), run.moves(), run.tokens(), run.outcome()), row)
            self.assertRaises(NothingDone, run.back)
            for row, word in zip(rows, words):
                self.assertEqual((run.state(), run.moves(), run.tokens(), run.outcome()), row)
                self.assertEqual(run.move(), word)
            self.assertEqual(run.outcome(), outcome(BOOK, program))

    def test_nothing_done(self):
        run = Run(BOOK, doubled(1))
        with self.assertRaises(NothingDone) as caught:
            run.back()
        self.assertIs(caught.exception.__class__, NothingDone)
        self.assertEqual((run.state(), run.moves(), run.tokens(), run.outcome()), ((0, (), ()), 0, (), None))
        run.move()
        run.back()
        self.assertRaises(NothingDone, run.back)
        self.assertEqual((run.state(), run.moves(), run.tokens(), run.outcome()), ((0, (), ()), 0, (), None))

    def test_chance_moves_and_backs(self):
        chance = random.Random(5)
        for program in [doubled(3), with_moves(80)] + flat_programs(20, 55):
            run, rows = Run(BOOK, program), []
            for _ in range(300):
                if rows and (run.outcome() is not None or chance.random() < 0.4):
                    run.back()
                    self.assertEqual((run.state(), run.tokens(), run.moves()), rows.pop())
                elif run.outcome() is None:
                    rows.append((run.state(), run.tokens(), run.moves()))
                    run.move()

    def test_copies_go_apart(self):
        for program in [doubled(3)] + flat_programs(15, 56):
            whole = led(program)
            for at in range(whole.moves() + 1):
                run = Run(BOOK, program)
                for _ in range(at):
                    run.move()
                told = (run.state(), run.moves(), run.tokens(), run.outcome())
                other = run.copy()
                self.assertIs(other.__class__, Run)
                self.assertEqual((other.state(), other.moves(), other.tokens(), other.outcome()), told)
                while other.outcome() is None:
                    other.move()
                self.assertEqual((run.state(), run.moves(), run.tokens(), run.outcome()), told)
                third = run.copy()
                while third.moves():
                    third.back()
                self.assertRaises(NothingDone, third.back)
                self.assertEqual((run.state(), run.moves(), run.tokens(), run.outcome()), told)
                while run.moves():
                    run.back()
                self.assertEqual((other.moves(), other.tokens(), other.outcome()), (whole.moves(), whole.tokens(), whole.outcome()))
                while third.outcome() is None:
                    third.move()
                self.assertEqual((third.moves(), third.tokens(), third.outcome()), (whole.moves(), whole.tokens(), whole.outcome()))
                self.assertEqual(run.state(), (0, (), ()))

    def test_third_fact(self):
        told = {}
        for lot in (Lot("once", ()), Lot("loan", ()), FREE, ODD, DUTY, Lot("more", (3,)), Lot("more", (2, 5))):
            book = Book(lot, TOOLS)
            for program in flat_programs(1500, 57, fuel=40):
                if fault(book, (), program) is None:
                    run = led(program, book)
                    self.assertTrue(all([lot.has(times) for times in run.tokens()]))
                    told[lot.word] = told.get(lot.word, 0) + len(run.tokens())
        self.assertGreater(min(told.values()), 300)

    def test_with_a_raw_lot(self):
        raw = Book(RawLot((False, True, True), (False,)), TOOLS)
        program = ("@", ("y", 0), "@", ("x", 0), "@", "@", "two", "x", "@", "@", "two", "x", "y", "y", "one")
        self.assertIsNone(fault(raw, (), program))
        run = led(program, raw)
        self.assertEqual(run.outcome(), ("two", "one", "two", "one", "one"))
        self.assertEqual(run.tokens()[0], 3)

    def test_long_runs_there_and_back(self):
        for program in (doubled(11), ("@", "s") * 5000 + ("one",), ("@", ("x", 0)) * 4000 + ("x",) + ("one",) * 4000, with_moves(20001)):
            run = led(program)
            self.assertGreater(run.moves(), 5000)
            other = run.copy()
            while run.moves():
                run.back()
            self.assertEqual((run.state(), run.tokens(), run.outcome()), ((0, (), ()), (), None))
            while run.outcome() is None:
                run.move()
            self.assertEqual((run.outcome(), run.tokens(), run.moves()), (other.outcome(), other.tokens(), other.moves()))

    def test_a_row_of_names(self):
        # Each x is handed the one around it: names lead to names thousands of times.
        program = ("@", ("x", 0), "x") * 3000 + ("one",)
        self.assertEqual(led(program).moves(), 9001)
        program = ("@", ("f", (0, 0))) + ("@", "f") * 2000 + ("one",) + (("y", 0), "y")
        self.assertEqual(led(program).outcome(), ("one",))

    def test_tools_of_many_lefts(self):
        book = Book(FREE, (("w", built((0,) * 300, 0)), ("o", 0)))
        run = led(("@",) * 300 + ("w",) + ("o",) * 300, book)
        self.assertEqual((run.outcome(), run.moves(), run.tokens()), (("w",) + ("o",) * 300, 601, (1,) * 300))


if __name__ == "__main__":
    unittest.main()
