"""The whole program: what all doors tell of one program, and what is told when names, letters and tools are others."""

import random
import unittest

from usecounts.bags import is_made_by, parts, things
from usecounts.errors import NotFlat, TooMany
from usecounts.finding import found, is_equal_help, is_paper, needless
from usecounts.houses import House, is_against, lean, stands_with
from usecounts.journals import recovered
from usecounts.judging import Book, fault, kind_of
from usecounts.kinds import lefts
from usecounts.library import Library
from usecounts.lots import Lot, RawLot, told_lot
from usecounts.machine import Run, outcome, worth
from usecounts.plains import many_plain, plain_programs
from usecounts.programs import counts, is_program, is_same, open_names, part, standard
from usecounts.reading import read_kind, read_program
from usecounts.stepping import counts_ahead, is_plain, is_row, plain, rest, stepped, steps
from usecounts.tables import bag_house
from usecounts.texts import kind_text, program_text
from tests import reference
from tests.slow_library import grown
from tests.test_tables import some_kind, stands_of

LOTS = [Lot("loan", ()), Lot("free", ()), Lot("more", (1,)), Lot("more", (2,)), Lot("more", (2, 3))]
FREE, ONCE = Lot("free", ()), Lot("once", ())


def names_of(program):
    return [word for word in program if isinstance(word, str) and word != "@"]


def some_right(many, seed, flat=False):
    """Books with programs that are right in them."""
    chance = random.Random(seed)
    kinds = [0, 1, (0, 0), (0, (0, 0)), (0, 1), (1, 0)] + ([] if flat else [((0, 0), 1), ((0, 1), (0, 1)), (((0, 0), 0), 0)])
    rows = []
    while len(rows) < many:
        lot = chance.choice(LOTS)
        tools = tuple((name, chance.choice(kinds)) for name in chance.sample(["one", "f", "g", "a", "b"], chance.randrange(1, 5)))
        wanted = chance.choice([0, 1] if flat else [0, 1, (0, 0), (0, 1), (0, (0, 1)), ((0, 1), (0, 1))])
        program = grown(chance, dict(tools), wanted, 4)
        if program is not None and len(program) <= 120 and fault(Book(lot, tools), (), program) is None and (len(program) > 3 or chance.random() < 0.1):
            rows.append((Book(lot, tools), program, wanted))
    return rows


def kept(book, program):
    """A library with the tools of a book and a definition "main"."""
    library = Library(book.lot)
    for name, kind in book.tools:
        library.tool(name, kind)
    library.define("main", program)
    return library


class DoorsTest(unittest.TestCase):

    def test_all_doors_tell_alike(self):
        for book, program, wanted in some_right(250, 1001):
            self.assertEqual(read_program(program_text(program)), program)
            self.assertEqual(read_kind(kind_text(wanted)), wanted)
            self.assertEqual(kind_of(book, (), program), wanted)
            library = kept(book, program)
            self.assertEqual((library.kind("main"), library.why("main")), (wanted, None))
            self.assertEqual(library.linked("main"), standard(program))
            self.assertEqual(library.uses("main"), list(open_names(program)))
            self.assertEqual(recovered(library.journal())[0].entry("main"), ("define", program))
            told = standard(program)
            self.assertTrue(is_same(program, told) and is_same(told, program))
            self.assertEqual((steps(told), list(counts(told).values())), (steps(program), list(counts(program).values())))
            self.assertIsNone(fault(book, (), told))
            nothing = (0,) * len(things(book, wanted))
            self.assertIs(is_made_by(book, wanted, nothing, wanted, ((), program)), True)
            self.assertIn(wanted, parts(book, wanted))
            row, at = [], program
            while steps(at):
                row.append(steps(at)[0])
                ahead = counts_ahead(at, row[-1])
                at = stepped(at, row[-1])
                self.assertEqual({name: times for name, times in counts(at).items() if isinstance(name, str)}, {name: times for name, times in ahead.items() if times})
                self.assertEqual(kind_of(book, (), at), wanted)
            self.assertEqual(rest(book, (), program), standard(at))
            self.assertIs(is_row(program, at, tuple(row)), True)
            made = plain(book, (), program)
            self.assertIs(is_plain(book, (), made), True)
            self.assertEqual(plain(book, (), made), made)
            self.assertIs(is_plain(book, (), program), steps(program) == () and len(made) == len(program))
            self.assertIs(is_paper(book, wanted, ("made", made)), True)
            self.assertIs(is_paper(book, wanted, ("made", program)), is_plain(book, (), program))
            many = len(names_of(made))
            if many <= 8:
                self.assertEqual(found(book, wanted)[0], "made")
                self.assertGreater(many_plain(book, wanted, many), 0)
                if many_plain(book, wanted, many) <= 500:
                    self.assertIn(made, plain_programs(book, wanted, many))
            for size in (1, 2):
                if stands_of(book, wanted, size) <= 130:
                    house = bag_house(book, wanted, size)
                    self.assertIs(is_against(book, wanted, house), False)
                    self.assertIn(0, stands_with(house, wanted))
                    self.assertIs(is_paper(book, wanted, ("not", lean(house))), False)

    def test_machine_and_library(self):
        for book, program, wanted in some_right(200, 1002, True):
            library = kept(book, program)
            told = tuple(word for word in plain(book, (), program) if word != "@")
            self.assertEqual(outcome(book, program), told)
            self.assertEqual(library.outcome("main"), told)
            functions = {name: (lambda worths, name=name: (name,) + sum(worths, ())) for name, _ in book.tools}
            self.assertEqual(worth(book, program, functions), told)
            run = Run(book, program)
            while run.outcome() is None:
                run.move()
            self.assertEqual(run.outcome(), told)
            # The third fact.
            self.assertTrue(all(book.lot.has(times) for times in run.tokens()))
            self.assertEqual(outcome(book, library.linked("main")), told)
            self.assertTrue(is_paper(book, wanted, ("made", plain(book, (), program))))
            library.tool("zz", ((0, 0), 0))
            self.assertRaises(NotFlat, library.outcome, "main")

    def test_parts_kept_as_definitions(self):
        # A part without names that are taken outside of it may be kept apart.
        many = 0
        for book, program, wanted in some_right(150, 1003):
            for place in range(1, len(program)):
                inner = part(program, place)
                if fault(Book(book.lot, book.tools), (), inner) is None and len(inner) > 1 and inner != program[place]:
                    taken = [word[0] for word in program[:place] if isinstance(word, tuple)]
                    if set(open_names(inner)) & set(taken) or "part" in taken:
                        continue
                    library = kept(book, program[:place] + ("part",) + program[place + len(inner):])
                    self.assertEqual(library.why("main"), ("lacking", "part"))
                    library.define("part", inner)
                    self.assertEqual((library.kind("main"), library.kind("part")), (wanted, kind_of(book, (), inner)))
                    self.assertEqual(library.linked("main"), standard(program))
                    self.assertEqual(recovered(library.journal())[0].linked("main"), standard(program))
                    many += 1
        self.assertGreater(many, 50)

    def test_faults_are_told_alike(self):
        chance = random.Random(1004)
        some = {}
        for book, program, wanted in some_right(150, 1005):
            names = [name for name, _ in book.tools] + ["x", "y"]
            at = chance.randrange(len(program))
            if program[at] != "@" and isinstance(program[at], str):
                program = program[:at] + (chance.choice(names),) + program[at + 1:]
            raw = Book(RawLot((False, True), (True,)), book.tools)
            self.assertEqual(fault(raw, (), program), fault(Book(told_lot(raw.lot), book.tools), (), program))
            wrong = fault(book, (), program)
            some[wrong and wrong[0]] = some.get(wrong and wrong[0], 0) + 1
            library = kept(book, program)
            if wrong is None:
                self.assertEqual(library.kind("main"), kind_of(book, (), program))
            elif wrong[0] == "open":
                self.assertEqual(library.why("main")[0], "lacking")
            else:
                self.assertEqual(library.why("main"), ("fault", "main", wrong))
                self.assertIs(is_plain(book, (), program), False)
        self.assertEqual(set(some), {None, "open", "kind", "count"})

    def test_great_programs(self):
        book = Book(FREE, (("s", (0, 0)), ("one", 0), ("two", (0, (0, 0)))))
        for program in [("@", "s") * 2400 + ("one",), ("@", "@", "two", "one") * 1200 + ("one",), ("@", ("x", 0)) * 1600 + ("one",) * 1601]:
            library = kept(book, program)
            self.assertEqual(library.kind("main"), 0)
            self.assertEqual(library.linked("main"), standard(program))
            self.assertEqual(library.outcome("main"), outcome(book, program))
            self.assertEqual(recovered(library.journal())[0].entry("main"), ("define", program))
            self.assertFalse(is_program(program))
            self.assertIs(is_paper(book, 0, ("made", rest(book, (), program))), True)
        wide = tuple(("x", (0, 0)) for _ in range(3000)) + ("one",)
        library = kept(book, wide)
        self.assertEqual(len(lefts(library.kind("main"))), 3000)
        self.assertEqual(recovered(library.journal())[0].journal(), library.journal())
        library.define("more", ("@", ("x", 0), "x", "main"))
        self.assertEqual(library.why("more"), ("fault", "more", ("kind", 0)))
        library.define("more", ("@", ("x", library.kind("main")), "one", "main"))
        self.assertEqual(library.kind("more"), 0)


def renamed(program, named):
    """The program with other names for its open ones."""
    shape = reference.term(program)
    return words(shape, named, [])


def words(shape, named, around):
    if shape[0] == "open":
        return (named[shape[1]],)
    if shape[0] == "own":
        return (around[shape[1]],)
    if shape[0] == "use":
        return ("@",) + words(shape[1], named, around) + words(shape[2], named, around)
    name = "t" + "qwertyuiopasdfghjklz"[len(around) % 20] * (1 + len(around) // 20)
    return ((name, shape[1]),) + words(shape[2], named, [name] + around)


def relettered(thing, letters):
    if isinstance(thing, tuple):
        return tuple(relettered(inner, letters) for inner in thing)
    return thing if isinstance(thing, str) else letters[thing]


class OthersTest(unittest.TestCase):

    def setUp(self):
        self.chance = random.Random(1006)

    def others(self, book, program):
        """The same with other names, letters, and an order of tools of another kind."""
        new = self.chance.sample(["first", "second", "third", "fourth", "fifth", "p", "q"], len(book.tools))
        named = dict(zip([name for name, _ in book.tools], new))
        letters = self.chance.sample(range(26), 2)
        tools = [(named[name], relettered(kind, letters)) for name, kind in book.tools]
        self.chance.shuffle(tools)
        return Book(book.lot, tuple(tools)), relettered(renamed(program, named), letters), letters, named

    def test_programs(self):
        for book, program, wanted in some_right(150, 1007):
            other, told, letters, named = self.others(book, program)
            kind = relettered(wanted, letters)
            self.assertIsNone(fault(other, (), told))
            self.assertEqual(kind_of(other, (), told), kind)
            self.assertEqual(steps(told), steps(program))
            self.assertEqual(len(rest(other, (), told)), len(rest(book, (), program)))
            self.assertTrue(is_same(plain(other, (), told), relettered(renamed(plain(book, (), program), named), letters)))
            self.assertEqual([many_plain(other, kind, names) for names in range(5)], [many_plain(book, wanted, names) for names in range(5)])
            library = kept(other, told)
            self.assertEqual(library.kind("main"), kind)
            self.assertEqual(sorted(library.uses("main")), sorted(named[name] for name in open_names(program)))

    def test_faults(self):
        for book, program, _ in some_right(150, 1008):
            names = [name for name, _ in book.tools]
            at = self.chance.randrange(len(program))
            if isinstance(program[at], str) and program[at] != "@":
                program = program[:at] + (self.chance.choice(names),) + program[at + 1:]
            other, told, _, _ = self.others(book, program)
            self.assertEqual(fault(other, (), told), fault(book, (), program))

    def test_outcomes(self):
        for book, program, _ in some_right(100, 1009, True):
            other, told, _, named = self.others(book, program)
            self.assertEqual(outcome(other, told), tuple(named[name] for name in outcome(book, program)))
            run, again = Run(book, program), Run(other, told)
            while run.outcome() is None:
                self.assertEqual(run.move(), again.move())
                self.assertEqual((run.state()[:2], run.tokens()), (again.state()[:2], again.tokens()))

    def test_tasks(self):
        many = {}
        for _ in range(120):
            lot = self.chance.choice(LOTS)
            tools = tuple((name, self.relettered_kind(3)) for name in self.chance.sample(["a", "f", "g"], self.chance.randrange(3)))
            book, wanted = Book(lot, tools), self.relettered_kind(5)
            if stands_of(book, wanted, 3) > 130:
                continue
            other, _, letters, named = self.others(book, (("x", 0), "x"))
            kind = relettered(wanted, letters)
            self.assertEqual([many_plain(other, kind, names) for names in range(6)], [many_plain(book, wanted, names) for names in range(6)])
            for size in (1, 2):
                self.assertIs(is_against(other, kind, bag_house(other, kind, size)), is_against(book, wanted, bag_house(book, wanted, size)))
            if any(is_against(book, wanted, bag_house(book, wanted, size)) for size in (1, 2, 3)) or any(many_plain(book, wanted, names) for names in range(7)):
                word, told = found(book, wanted)
                self.assertEqual(found(other, kind)[0], word)
                many[word] = many.get(word, 0) + 1
                if word == "made":
                    self.assertIs(is_paper(other, kind, ("made", relettered(renamed(told, named), letters))), True)
                    # What is made is made as well where every number is held.
                    self.assertIs(is_paper(Book(FREE, book.tools), wanted, (word, told)), True)
                else:
                    house = House(told.lot, told.joining, {letters[letter]: has for letter, has in told.letters.items()})
                    self.assertIs(is_paper(other, kind, ("not", house)), True)
        self.assertGreater(min(many.values()), 15)

    def relettered_kind(self, letters):
        return relettered(some_kind(self.chance, self.chance.randrange(1, letters + 1)), [0, 1, 1])

    def test_tools(self):
        for _ in range(30):
            lot = self.chance.choice(LOTS)
            tools = tuple((name, self.chance.choice([0, 1, (0, 1), (1, 0), (0, (0, 1))])) for name in self.chance.sample(["a", "f", "g", "h"], 3))
            book = Book(lot, tools)
            other, _, letters, named = self.others(book, (tools[0][0],))
            self.assertEqual(set(needless(other)), {named[name] for name in needless(book)})
            again = Book(lot, tuple((name, relettered(kind, letters)) for name, kind in book.tools))
            self.assertIs(is_equal_help(other, again), True)

    def test_libraries(self):
        for book, program, wanted in some_right(60, 1010):
            other, told, letters, named = self.others(book, program)
            for one, words_told, kind in ((book, program, wanted), (other, told, relettered(wanted, letters))):
                library = kept(one, words_told)
                library.wish("wished", kind)
                self.assertEqual((library.changed(), library.judged()), (["wished"], []))
                library.define("again", ("main",))
                self.assertEqual((library.changed(), library.judged(), library.kind("again")), (["again"], ["again"], kind))
                library.drop("main")
                self.assertEqual((library.changed(), library.judged()), (["again", "main"], ["again"]))
                library.undo()
                self.assertEqual((library.changed(), library.judged()), (["again", "main"], ["again", "main"]))
                if len(names_of(plain(one, (), words_told))) <= 8:
                    self.assertEqual(library.verdict("wished")[0], "made")
                    library.fill("wished")
                    self.assertEqual(library.kind("wished"), kind)


class FactsTest(unittest.TestCase):

    def test_fifth_fact_for_all_small_tasks(self):
        kinds = [0, 1, (0, 0), (0, 1), ((0, 0), 0), ((0, 1), 0), (0, (0, 0)), (0, (1, 0)), (0, (0, 1)), ((0, (0, 1)), (0, 1)), (((0, 0), 1), 1)]
        tools = [(), (("f", 0),), (("f", (0, 1)),), (("f", (0, (0, 1))),), (("f", ((0, 1), 1)),), (("f", ((0, 0), 0)), ("g", (0, 1)))]
        many = {"made": 0, "not": 0}
        for lot in LOTS + [ONCE]:
            for told in tools:
                book = Book(lot, told)
                if lot == ONCE and told:
                    continue
                for kind in kinds:
                    rows = [names for names in range(9) if many_plain(book, kind, names)]
                    sizes = [size for size in (1, 2, 3) if lot == ONCE or stands_of(book, kind, size) <= 200]
                    against = [size for size in sizes if is_against(book, kind, bag_house(book, kind, size))]
                    self.assertFalse(rows and against)
                    if rows or against:
                        word, paper = found(book, kind)
                        self.assertEqual(word, "made" if rows else "not")
                        self.assertTrue(is_paper(book, kind, (word, paper)))
                        many[word] += 1
        self.assertGreater(min(many.values()), 80)

    def test_second_fact_in_any_order(self):
        chance = random.Random(1011)
        for book, program, wanted in some_right(80, 1012):
            last = None
            for _ in range(3):
                at, row = program, []
                while steps(at):
                    row.append(chance.choice(steps(at)))
                    at = stepped(at, row[-1])
                    self.assertIsNone(fault(book, (), at))
                    self.assertEqual(kind_of(book, (), at), wanted)
                self.assertTrue(is_row(program, at, tuple(row)))
                self.assertTrue(last is None or is_same(last, at))
                last = at
            self.assertTrue(is_same(rest(book, (), program), last))

    def test_too_many_words_leave_all_as_it_was(self):
        library = Library(FREE)
        library.tool("one", 0)
        library.tool("two", (0, (0, 0)))
        library.define("many", ("@", ("f", ((0, 0), (0, 0))), "@", "@", "f", "@", "f", "@", "f", "@", "f", ("x", 0), "@", "@", "two", "x", "x", "one",
                                ("g", (0, 0)), ("x", 0), "@", "g", "@", "g", "@", "g", "x"))
        ahead = library.journal()
        self.assertEqual(library.kind("many"), 0)
        self.assertRaises(TooMany, library.outcome, "many")
        self.assertEqual(library.journal(), ahead)


if __name__ == "__main__":
    unittest.main()
