"""10.1 to 10.3: libraries."""

import random
import unittest

from usecounts.errors import (CountsError, Full, NoKind, NoName, NoProgram, NotFlat, NotLet, NotMade, NothingDone, NotWhole, NoWish,
                              TooMany, Unknown)
from usecounts.finding import found, is_paper
from usecounts.judging import Book, kind_of
from usecounts.kinds import built
from usecounts.library import Library
from usecounts.lots import Lot, RawLot, common
from usecounts.machine import Run, outcome
from usecounts.programs import standard
from usecounts.stepping import plain
from tests import reference
from tests.odd_things import nested, odd_integers, odd_things
from tests.slow_library import LOTS, SlowLibrary, some_edit
from tests.test_kinds import no_kinds
from tests.test_machine import with_moves
from tests.test_programs import no_programs

ONCE, LOAN, FREE = Lot("once", ()), Lot("loan", ()), Lot("free", ())
ODD, DUTY = Lot("more", (2,)), Lot("more", (1,))
NAMES = ["a", "b", "c", "d", "e", "f", "g", "x", "one", "longname"]
TWO, ONE = (0, (0, 0)), 0


def no_names():
    rows = ["", "A", "aB", "abcdefghi", "a b", "a1", "@", " a", "a ", "a\n", b"a", ("a",), ["a"], None, 0, True]
    return rows + [thing for thing in odd_things() if not (isinstance(thing, str) and thing in ("a", "one"))] + odd_integers()


def snapshot(library):
    """All that a library tells, but verdicts and outcomes."""
    names = library.names()
    rows = [(name, library.entry(name), library.kind(name), library.why(name), library.uses(name), library.users(name)) for name in names]
    return (names, rows, library.changed(), library.judged(), library.depth(), library.journal())


class AccountTest(unittest.TestCase):

    def agree(self, library, slow):
        now = slow.now
        self.assertEqual(library.names(), sorted(now.entries))
        for name in NAMES:
            self.assertEqual(library.uses(name), now.uses(name))
            self.assertEqual(library.users(name), now.users(name))
        for name in now.entries:
            self.assertEqual(library.entry(name), now.entries[name])
            self.assertEqual(library.kind(name), now.kinds[name])
            self.assertTrue(now.is_why(name, library.why(name)), (name, library.why(name)))
        self.assertEqual(library.changed(), slow.changed())
        self.assertEqual(library.judged(), slow.judged())
        self.assertEqual(library.depth(), slow.many)
        self.assertEqual(library.journal(), slow.journal())

    def agree_on_programs(self, library, now):
        tools = now.tools()
        for name in now.entries:
            if now.kinds[name] is None:
                self.assertRaises(NotWhole, library.linked, name)
                self.assertRaises(NotWhole, library.outcome, name)
                continue
            linked = library.linked(name)
            self.assertEqual(reference.term(linked), now.linked(name))
            self.assertEqual(standard(linked), linked)
            is_wished = any(now.entries[other][0] == "wish" for other in now.led_to(name) + [name])
            is_flat = isinstance(now.kinds[name], int) and not any(isinstance(left, tuple) for _, kind in tools for left in self.lefts(kind))
            if is_wished:
                self.assertRaises(NotWhole, library.outcome, name)
            elif not is_flat:
                self.assertRaises(NotFlat, library.outcome, name)
            else:
                self.assertEqual(library.outcome(name), now.outcome(name))
                self.assertEqual(library.outcome(name), outcome(Book(now.lot, tools), linked))

    def lefts(self, kind):
        return [] if isinstance(kind, int) else [kind[0]] + self.lefts(kind[1])

    def test_edits_of_chance(self):
        words, whys = {}, {}
        for seed in range(40):
            chance = random.Random(seed)
            lot = chance.choice(LOTS[1:])
            library, slow = Library(lot), SlowLibrary(lot)
            self.agree(library, slow)
            names = NAMES if seed % 3 else NAMES[:4]
            for at in range(40):
                word, arguments = some_edit(chance, slow, names, True)
                self.assertIsNone(getattr(library, word)(*arguments))
                getattr(slow, word)(*arguments)
                self.agree(library, slow)
                if at % 4 == 0:
                    self.agree_on_programs(library, slow.now)
                words[word] = words.get(word, 0) + 1
                for name in slow.now.entries:
                    why = library.why(name)
                    whys[why and why[0]] = whys.get(why and why[0], 0) + 1
        self.assertGreater(min(words.values()), 50)
        self.assertEqual(set(whys), {None, "lacking", "ring", "fault"})
        self.assertGreater(min(whys.values()), 20)

    def test_rings_of_chance(self):
        for seed in range(20):
            chance = random.Random(100 + seed)
            library, slow = Library(FREE), SlowLibrary(FREE)
            for _ in range(40):
                word, arguments = some_edit(chance, slow, NAMES[:6], False)
                getattr(library, word)(*arguments)
                getattr(slow, word)(*arguments)
                self.agree(library, slow)

    def test_from_end_to_end(self):
        chance = random.Random(7)
        library, slow = Library(DUTY), SlowLibrary(DUTY)
        told = [snapshot(library)[:2]]
        while library.depth() < 30:
            word, arguments = some_edit(chance, slow, NAMES[:6], True)
            if word not in ("undo", "redo"):
                getattr(library, word)(*arguments)
                getattr(slow, word)(*arguments)
                told.append(snapshot(library)[:2])
        for depth in reversed(range(30)):
            library.undo()
            slow.undo()
            self.assertEqual(snapshot(library)[:2], told[depth])
            self.agree(library, slow)
        self.assertRaises(NothingDone, library.undo)
        self.assertEqual(library.names(), [])
        for depth in range(1, 31):
            library.redo()
            slow.redo()
            self.assertEqual(snapshot(library)[:2], told[depth])
            self.agree(library, slow)
        self.assertRaises(NothingDone, library.redo)

    def test_copies_do_again_what_was_taken_back(self):
        library = Library(FREE)
        for name in ("a", "b", "c"):
            library.tool(name, 0)
        library.undo()
        library.undo()
        other = library.copy()
        library.redo()
        self.assertEqual((library.names(), other.names(), other.depth()), (["a", "b"], ["a"], 1))
        other.redo()
        other.redo()
        self.assertRaises(NothingDone, other.redo)
        self.assertEqual((library.names(), other.names()), (["a", "b"], ["a", "b", "c"]))
        third = library.copy()
        library.tool("z", 0)
        third.redo()
        self.assertEqual(third.names(), ["a", "b", "c"])
        self.assertRaises(NothingDone, library.redo)
        while other.depth():
            other.undo()
        self.assertEqual((library.names(), other.names()), (["a", "b", "z"], []))

    def test_copies_go_on_apart(self):
        for seed in range(8):
            chance = random.Random(200 + seed)
            library, slow = Library(ODD), SlowLibrary(ODD)
            for _ in range(25):
                word, arguments = some_edit(chance, slow, NAMES[:6], True)
                getattr(library, word)(*arguments)
                getattr(slow, word)(*arguments)
            other = library.copy()
            self.assertIsNot(other, library)
            self.assertEqual(snapshot(other), snapshot(library))
            ahead = snapshot(library)
            row = [some_edit(chance, slow, NAMES[:6], True)]
            again = SlowLibrary(ODD)
            again.edits, again.many, again.told = list(slow.edits), slow.many, list(slow.told)
            again.now = again.account()
            again.put, again.ahead = slow.put, slow.ahead
            for _ in range(15):
                word, arguments = row.pop() if row else some_edit(chance, again, NAMES[:6], True)
                getattr(other, word)(*arguments)
                getattr(again, word)(*arguments)
                self.agree(other, again)
            self.assertEqual(snapshot(library), ahead)
            for _ in range(15):
                word, arguments = some_edit(chance, slow, NAMES[:6], True)
                getattr(library, word)(*arguments)
                getattr(slow, word)(*arguments)
                self.agree(library, slow)
            self.agree(other, again)


class EntriesTest(unittest.TestCase):

    def test_example(self):
        library = Library(DUTY)
        self.assertEqual((library.names(), library.changed(), library.judged(), library.depth()), ([], [], [], 0))
        library.tool("one", 0)
        self.assertEqual((library.changed(), library.judged()), (["one"], []))
        library.define("pair", ("@", "@", "two", "one", "one"))
        self.assertEqual((library.changed(), library.judged(), library.kind("pair")), ([], ["pair"], None))
        self.assertEqual(library.why("pair"), ("lacking", "two"))
        self.assertEqual((library.uses("pair"), library.users("two"), library.uses("two")), (["one", "two"], ["pair"], []))
        library.tool("two", TWO)
        self.assertEqual((library.changed(), library.judged(), library.kind("pair")), (["pair", "two"], ["pair"], 0))
        self.assertIsNone(library.why("pair"))

    def test_elder_entries_of_another_sort(self):
        library = Library(DUTY)
        library.tool("one", 0)
        library.define("two", ("one",))
        library.define("three", ("two",))
        library.wish("one", 0)
        self.assertEqual((library.entry("one"), library.changed(), library.judged()), (("wish", 0), [], []))
        library.tool("two", 0)
        self.assertEqual((library.entry("two"), library.changed(), library.judged()), (("tool", 0), [], []))
        library.tool("two", 1)
        self.assertEqual((library.changed(), library.judged(), library.kind("three")), (["three", "two"], ["three"], 1))
        library.define("two", ("one",))
        self.assertEqual((library.changed(), library.judged(), library.kind("three")), (["three", "two"], ["three", "two"], 0))
        library.undo()
        self.assertEqual((library.changed(), library.judged(), library.entry("two")), (["three", "two"], ["three"], ("tool", 1)))
        library.redo()
        self.assertEqual((library.changed(), library.judged(), library.entry("two")), (["three", "two"], ["three", "two"], ("define", ("one",))))
        library.drop("one")
        self.assertEqual((library.changed(), library.judged()), (["one", "three", "two"], ["three", "two"]))
        library.drop("two")
        self.assertEqual((library.changed(), library.judged(), library.why("three")), ([], [], ("lacking", "two")))
        library.undo()
        self.assertEqual((library.changed(), library.judged()), ([], ["two"]))

    def test_the_same_again(self):
        library = Library(DUTY)
        library.define("x", (("a", 0), "a"))
        library.define("x", (("b", 0), "b"))
        self.assertEqual((library.changed(), library.judged(), library.depth()), ([], ["x"], 2))
        library.define("x", (("b", 0), "b"))
        self.assertEqual((library.changed(), library.judged(), library.depth()), ([], ["x"], 3))
        library.undo()
        self.assertEqual((library.changed(), library.judged()), ([], ["x"]))

    def test_lots(self):
        library = Library(DUTY)
        library.define("twice", (("x", 0), "@", "@", "two", "x", "x"))
        library.define("none", (("x", 0), "one"))
        library.tool("two", TWO)
        library.tool("one", 0)
        for lot, twice, none in [(FREE, (0, 0), (0, 0)), (ODD, None, None), (LOAN, None, (0, 0)), (ONCE, None, None), (DUTY, (0, 0), None)]:
            library.relot(lot)
            self.assertEqual((library.kind("twice"), library.kind("none")), (twice, none))
            self.assertEqual(library.judged(), ["none", "twice"])
            self.assertEqual(library.why("twice"), None if twice else ("fault", "twice", ("count", 0, 2)))
        self.assertEqual(library.changed(), ["twice"])
        # The lot is no other one.
        library.relot(Lot("more", (1, 7)))
        self.assertEqual((library.changed(), library.judged(), library.depth()), ([], [], 10))
        library.undo()
        self.assertEqual((library.changed(), library.judged()), ([], []))
        library.undo()
        self.assertEqual((library.changed(), library.judged()), (["twice"], ["none", "twice"]))

    def test_more_than_eight_uses(self):
        library = Library(FREE)
        names = [letter * 3 for letter in "abcdefghijklmnopqrst"]
        for name in names[:8]:
            library.tool(name, 0)
        for name in names[8:14]:
            library.wish(name, 0)
        for name in names[14:]:
            library.define(name, (names[0],))
        library.tool(names[0], built((0,) * 19, 1))
        for name in names[14:]:
            library.define(name, (names[1],))
        library.define("all", ("@",) * 19 + tuple(names))
        self.assertEqual(library.kind("all"), 1)
        self.assertEqual(library.uses("all"), names)

    def test_rings(self):
        library = Library(FREE)
        library.define("a", ("a",))
        self.assertEqual((library.kind("a"), library.why("a")), (None, ("ring", ("a",))))
        library.define("b", ("@", "a", "c"))
        self.assertEqual(library.why("b"), ("lacking", "c"))
        library.define("c", ("d",))
        library.tool("d", 0)
        self.assertEqual(library.why("b"), ("ring", ("a",)))
        library.tool("a", (0, 0))
        self.assertEqual((library.kind("b"), library.why("b")), (0, None))
        library.define("a", (("x", 0), "@", ("y", 0), "x", "e"))
        library.define("e", ("@", "b", "d"))
        self.assertIn(library.why("a"), [("ring", row) for row in [("a", "e", "b"), ("e", "b", "a"), ("b", "a", "e")]])
        self.assertEqual([library.kind(name) for name in "abcde"], [None, None, 0, 0, None])
        # What is lacking comes ahead of a ring, and a ring ahead of a fault.
        library.define("f", ("@", "@", "a", "g", "z"))
        library.define("g", ("@", "d", "d"))
        self.assertEqual(library.why("f"), ("lacking", "z"))
        library.tool("z", 0)
        self.assertEqual(library.why("f")[0], "ring")
        library.tool("a", 0)
        self.assertEqual(library.why("f"), ("fault", "g", ("kind", 0)))

    def test_the_least_that_is_not_right(self):
        library = Library(DUTY)
        library.tool("one", 0)
        library.define("z", ("@", "one", "one"))
        library.define("y", (("x", 0), "one"))
        library.define("a", ("@", "z", "y"))
        self.assertEqual(library.why("a"), ("fault", "y", ("count", 0, 0)))
        self.assertEqual(library.why("z"), ("fault", "z", ("kind", 0)))
        library.define("y", ("one",))
        self.assertEqual(library.why("a"), ("fault", "z", ("kind", 0)))
        library.define("z", ("one",))
        self.assertEqual(library.why("a"), ("fault", "a", ("kind", 0)))
        library.define("z", (("x", 0), "x"))
        self.assertIsNone(library.why("a"))

    def test_taken_names_are_no_uses(self):
        library = Library(FREE)
        library.define("a", (("b", 0), ("a", 1), "b"))
        self.assertEqual((library.uses("a"), library.kind("a")), ([], (0, (1, 0))))
        library.tool("b", 5)
        self.assertEqual((library.users("b"), library.judged()), ([], []))
        library.define("c", ("@", ("b", 5), "b", "b"))
        self.assertEqual((library.users("b"), library.kind("c")), (["c"], 5))

    def test_full(self):
        library = Library(FREE)
        for name in "abcdefgh":
            library.tool(name, 0)
        ahead = snapshot(library)
        for name in ("i", "one"):
            with self.assertRaises(Full) as caught:
                library.tool(name, 0)
            self.assertIs(caught.exception.__class__, Full)
        self.assertRaises(NoName, library.tool, "I", 0)
        self.assertRaises(NoKind, library.tool, "i", 26)
        self.assertEqual(snapshot(library), ahead)
        library.tool("h", 1)
        library.wish("i", 0)
        library.define("j", ("a",))
        self.assertRaises(Full, library.tool, "i", 0)
        self.assertRaises(Full, library.tool, "j", 0)
        library.define("a", ("b",))
        library.tool("i", 0)
        self.assertRaises(Full, library.tool, "a", 0)
        library.drop("b")
        library.tool("a", 0)
        self.assertEqual(len(library.names()), 9)

    def test_new_lists(self):
        library = Library(FREE)
        library.tool("one", 0)
        library.define("a", ("one",))
        for call in (library.names, library.changed, library.judged, lambda: library.uses("a"), lambda: library.users("one")):
            told = list(call())
            self.assertIsInstance(call(), list)
            self.assertIsNot(call(), call())
            call().append("z")
            call().clear()
            self.assertEqual(call(), told)

    def test_great_ones(self):
        library = Library(FREE)
        wide = built((0,) * 2000, 1)
        deep = nested(2000, lambda core: built((core,), 0), 0)
        library.tool("wide", wide)
        library.tool("deep", deep)
        library.wish("wished", deep)
        library.define("a", (("x", (deep, 0)), "@", "x", "deep"))
        self.assertEqual(library.names(), ["a", "deep", "wide", "wished"])
        library.define("b", ("@", "a", ("y", deep), "@", "wide", "x"))
        self.assertEqual(library.why("b"), ("lacking", "x"))
        library.define("b", ("@",) * 2000 + ("wide",) + ("one",) * 2000)
        library.tool("one", 0)
        self.assertEqual(library.kind("b"), 1)
        self.assertEqual(library.changed(), ["b", "one"])
        library.wish("deep", deep)
        self.assertEqual((library.changed(), library.judged()), ([], []))
        library.wish("deep", nested(1999, lambda core: built((core,), 0), 0))
        self.assertEqual((library.changed(), library.judged()), (["a", "deep"], ["a"]))

    def test_long_rows_of_definitions(self):
        library = Library(FREE)
        names = ["n" + "".join(chr(97 + at // 26 ** k % 26) for k in range(3)) for at in range(1500)]
        for name, other in zip(names, names[1:]):
            library.define(name, (other,))
            if len(library.names()) > 300:
                break
        last = names[len(library.names())]
        self.assertEqual(library.why(names[0]), ("lacking", last))
        library.tool(last, 7)
        self.assertEqual((library.kind(names[0]), len(library.changed())), (7, 302))
        self.assertEqual(library.outcome(names[0]), (last,))
        library.define(last, (names[0],))
        self.assertEqual((library.why(names[5])[0], len(library.why(names[5])[1])), ("ring", 302))


class ErrorsTest(unittest.TestCase):

    def setUp(self):
        self.library = Library(DUTY)
        self.library.tool("one", 0)
        self.library.define("a", ("one",))
        self.library.wish("w", (0, 1))
        self.library.undo()
        self.library.wish("w", (0, 0))
        self.library.undo()

    def refused(self, wanted, call, *arguments):
        ahead = snapshot(self.library)
        with self.assertRaises(CountsError) as caught:
            call(*arguments)
        self.assertIs(caught.exception.__class__, wanted)
        self.assertEqual(snapshot(self.library), ahead)
        return caught.exception

    def test_lots(self):
        for thing in [None, "free", ("free", ()), RawLot((), (True,)), Lot, Book(FREE, ())] + odd_things() + odd_integers():
            if not isinstance(thing, Lot):
                with self.assertRaises(NotLet) as caught:
                    Library(thing)
                self.assertIs(caught.exception.__class__, NotLet)
                self.refused(NotLet, self.library.relot, thing)

    def test_names_first(self):
        for thing in no_names():
            for wrong in (0, 26, None, ("one",), (0, 0)):
                self.refused(NoName, self.library.tool, thing, wrong)
                self.refused(NoName, self.library.define, thing, wrong)
                self.refused(NoName, self.library.wish, thing, wrong)
            self.refused(NoName, self.library.uses, thing)
            self.refused(NoName, self.library.users, thing)

    def test_kinds_and_programs(self):
        for thing in no_kinds():
            self.refused(NoKind, self.library.tool, "b", thing)
            self.refused(NoKind, self.library.wish, "b", thing)
        for thing in no_programs():
            self.refused(NoProgram, self.library.define, "b", thing)

    def test_unknown(self):
        library = self.library
        for thing in no_names() + ["b", "w", "on", "oneone", "z" * 30]:
            if thing != "a" and thing != "one":
                for call in (library.drop, library.entry, library.kind, library.why, library.verdict, library.fill, library.linked, library.outcome):
                    self.assertIs(self.refused(Unknown, call, thing).name, thing)

    def test_no_wish(self):
        for name in ("one", "a"):
            for call in (self.library.verdict, self.library.fill):
                self.refused(NoWish, call, name)

    def test_nothing_done(self):
        self.refused(NothingDone, Library(DUTY).undo)
        self.refused(NothingDone, Library(DUTY).redo)
        self.library.redo()
        self.refused(NothingDone, self.library.redo)
        self.library.undo()
        self.library.define("a", ("one",))
        self.refused(NothingDone, self.library.redo)

    def test_errors_leave_what_can_be_done_again(self):
        self.refused(NoName, self.library.tool, "", 0)
        self.refused(Unknown, self.library.drop, "b")
        self.refused(NotLet, self.library.relot, None)
        self.library.redo()
        self.assertEqual(self.library.entry("w"), ("wish", (0, 0)))


class WishesTest(unittest.TestCase):

    def test_verdicts(self):
        library = Library(ODD)
        library.wish("w", 1)
        self.assertEqual(library.verdict("w")[0], "not")
        library.tool("f", (0, 1))
        word, house = library.verdict("w")
        self.assertEqual(word, "not")
        self.assertTrue(is_paper(Book(ODD, (("f", (0, 1)),)), 1, (word, house)))
        library.tool("one", 0)
        self.assertEqual(library.verdict("w"), ("made", ("@", "f", "one")))
        library.wish("w", ((0, (0, 1)), (0, 1)))
        self.assertEqual(library.verdict("w")[0], "made")
        library.drop("one")
        self.assertEqual(library.verdict("w")[0], "not")
        library.relot(DUTY)
        self.assertEqual(library.verdict("w"), ("made", (("a", (0, (0, 1))), ("b", 0), "@", "@", "a", "b", "b")))
        library.undo()
        self.assertEqual(library.verdict("w")[0], "not")
        library.undo()
        self.assertEqual(library.verdict("w")[0], "made")
        library.define("one", ("one",))
        self.assertEqual(library.verdict("w")[0], "not")
        library.define("one", ("f",))
        self.assertEqual(library.verdict("w")[0], "not")
        library.tool("one", 0)
        self.assertEqual(library.verdict("w")[0], "made")

    def test_another_wish_in_its_place(self):
        library = Library(FREE)
        library.wish("w", (0, 0))
        self.assertEqual(library.verdict("w"), ("made", (("a", 0), "a")))
        library.wish("w", (1, 1))
        self.assertEqual(library.verdict("w"), ("made", (("a", 1), "a")))
        library.wish("w", 0)
        self.assertEqual(library.verdict("w")[0], "not")
        library.undo()
        self.assertEqual(library.verdict("w"), ("made", (("a", 1), "a")))
        library.drop("w")
        self.assertRaises(Unknown, library.verdict, "w")
        library.define("w", (("a", 1), "a"))
        self.assertRaises(NoWish, library.verdict, "w")

    def test_verdicts_as_found_tells(self):
        chance = random.Random(31)
        for seed in range(12):
            library, slow = Library(LOAN), SlowLibrary(LOAN)
            for _ in range(25):
                word, arguments = some_edit(chance, slow, NAMES[:5], True)
                getattr(library, word)(*arguments)
                getattr(slow, word)(*arguments)
                for name, entry in slow.now.entries.items():
                    if entry[0] == "wish":
                        if slow.now.lot == ONCE and slow.now.tools():
                            self.assertRaises(NotLet, library.verdict, name)
                            self.assertRaises(NotLet, library.fill, name)
                            continue
                        book = Book(slow.now.lot, slow.now.tools())
                        told = library.verdict(name)
                        self.assertTrue(is_paper(book, entry[1], told))
                        self.assertEqual(told[0], found(book, entry[1])[0])
                        self.assertEqual(library.copy().verdict(name), told)

    def test_fill(self):
        library = Library(FREE)
        library.tool("one", 0)
        library.wish("w", (1, 0))
        library.define("a", ("w",))
        self.assertEqual(library.kind("a"), (1, 0))
        self.assertIsNone(library.fill("w"))
        self.assertEqual(library.entry("w")[0], "define")
        self.assertEqual(library.kind("w"), (1, 0))
        self.assertEqual((library.changed(), library.judged(), library.depth()), ([], ["w"], 4))
        self.assertEqual(kind_of(Book(FREE, (("one", 0),)), (), library.linked("a")), (1, 0))
        self.assertRaises(NoWish, library.fill, "w")
        library.undo()
        self.assertEqual(library.entry("w"), ("wish", (1, 0)))
        library.redo()
        self.assertEqual(library.entry("w")[0], "define")

    def test_not_made(self):
        library = Library(FREE)
        library.wish("w", (0, 1))
        library.wish("v", 1)
        library.undo()
        ahead = snapshot(library)
        with self.assertRaises(NotMade) as caught:
            library.fill("w")
        self.assertIs(caught.exception.__class__, NotMade)
        self.assertEqual(snapshot(library), ahead)
        library.redo()
        self.assertEqual(library.names(), ["v", "w"])

    def test_not_let(self):
        library = Library(ONCE)
        library.wish("w", (0, 0))
        library.tool("one", 0)
        ahead = snapshot(library)
        for call in (library.verdict, library.fill):
            with self.assertRaises(NotLet) as caught:
                call("w")
            self.assertIs(caught.exception.__class__, NotLet)
        self.assertEqual(snapshot(library), ahead)
        library.define("one", (("x", 0), "x"))
        self.assertEqual(library.verdict("w"), ("made", (("a", 0), "a")))

    def test_great_makers(self):
        library = Library(common(Lot("more", (11,)), Lot("more", (12,))))
        library.wish("w", (0, 0))
        library.fill("w")
        self.assertEqual(library.entry("w"), ("define", (("a", 0), "a")))


class LinkedTest(unittest.TestCase):

    def test_ordinary(self):
        library = Library(FREE)
        library.tool("one", 0)
        library.tool("two", TWO)
        library.wish("w", 0)
        library.define("twice", (("x", 0), "@", "@", "two", "x", "x"))
        library.define("four", ("@", "twice", "@", "twice", "w"))
        self.assertEqual(library.linked("one"), ("one",))
        self.assertEqual(library.linked("w"), ("w",))
        self.assertEqual(library.linked("twice"), (("a", 0), "@", "@", "two", "a", "a"))
        self.assertEqual(library.linked("four"), ("@", ("a", 0), "@", "@", "two", "a", "a", "@", ("b", 0), "@", "@", "two", "b", "b", "w"))

    def test_taken_names_that_are_names_of_entries(self):
        library = Library(FREE)
        library.tool("a", 0)
        library.tool("b", (0, 0))
        library.wish("c", 0)
        library.define("d", (("c", 0), ("a", 0), "@", "@", ("d", 0), ("b", 0), "d", "a", "c"))
        library.define("e", (("d", 0), ("b", 0), "@", "f", "a"))
        library.define("f", (("e", 0), "@", "b", "c"))
        self.assertEqual(library.kind("e"), (0, (0, 0)))
        self.assertEqual(library.linked("f"), (("a", 0), "@", "b", "c"))
        self.assertEqual(library.linked("e"), (("d", 0), ("e", 0), "@", ("f", 0), "@", "b", "c", "a"))
        self.assertEqual(library.linked("d"), (("a", 0), ("b", 0), "@", "@", ("c", 0), ("d", 0), "c", "b", "a"))
        library.define("g", ("@", "@", "d", "a", "@", "@", "e", "a", "c"))
        self.assertEqual(reference.term(library.linked("g")), ("use", ("use", reference.term(library.linked("d")), ("open", "a")),
                                                              ("use", ("use", reference.term(library.linked("e")), ("open", "a")), ("open", "c"))))

    def doubled(self, times, words):
        """A library with a definition of two of two .. of a program with so many words, an odd number."""
        library = Library(FREE)
        library.tool("two", TWO)
        library.tool("s", (0, 0))
        library.tool("one", 0)
        library.define("d", ("@", "s") * (words // 2) + ("one",))
        for at in range(times):
            library.define(self.numbered(at + 1), ("@", "@", "two") + (self.numbered(at),) * 2)
        return library, self.numbered(times)

    def numbered(self, at):
        return "d" + "x" * (at // 10) + "abcdefghij"[at % 10] if at else "d"

    def test_just_5000_words(self):
        library, _ = self.doubled(0, 4999)
        self.assertEqual(len(library.linked("d")), 4999)
        library.define("e", (("x", 0), "d"))
        self.assertEqual(library.linked("e"), (("a", 0),) + ("@", "s") * 2499 + ("one",))
        library.define("f", ("@", "s", "d"))
        with self.assertRaises(TooMany) as caught:
            library.linked("f")
        self.assertIs(caught.exception.__class__, TooMany)
        self.assertEqual(caught.exception.most, 5000)
        library.define("g", (("x", 0), "e"))
        self.assertRaises(TooMany, library.linked, "g")
        self.assertRaises(TooMany, library.outcome, "f")
        # 7 * (words + 3) ..: two of two of .. has twice the words and 3 more.
        library, name = self.doubled(3, 621)
        self.assertEqual(len(library.linked(name)), 8 * 621 + 7 * 3)
        library, name = self.doubled(3, 623)
        self.assertRaises(TooMany, library.linked, name)
        self.assertEqual(len(library.linked(self.numbered(2))), 2 * (2 * 623 + 3) + 3)

    def test_very_many(self):
        library, name = self.doubled(20, 601)
        self.assertEqual(library.kind(name), 0)
        for call in (library.linked, library.outcome):
            with self.assertRaises(TooMany) as caught:
                call(name)
            self.assertEqual(caught.exception.most, 5000)

    def test_not_whole(self):
        library = Library(FREE)
        library.define("a", ("b",))
        for call in (library.linked, library.outcome):
            with self.assertRaises(NotWhole) as caught:
                call("a")
            self.assertIs(caught.exception.__class__, NotWhole)
        library.wish("b", 0)
        self.assertEqual(library.linked("a"), ("b",))
        self.assertRaises(NotWhole, library.outcome, "a")
        self.assertRaises(NotWhole, library.outcome, "b")
        library.tool("b", 0)
        self.assertEqual(library.outcome("a"), ("b",))

    def test_not_whole_ahead_of_not_flat_ahead_of_too_many(self):
        library, name = self.doubled(20, 601)
        library.tool("deep", ((0, 0), 0))
        self.assertRaises(NotFlat, library.outcome, name)
        self.assertRaises(NotFlat, library.outcome, "one")
        self.assertRaises(TooMany, library.linked, name)
        library.wish("one", 0)
        self.assertRaises(NotWhole, library.outcome, name)
        self.assertRaises(NotWhole, library.outcome, "one")
        library.wish("s", (0, 1))
        self.assertRaises(NotWhole, library.outcome, name)
        self.assertRaises(NotWhole, library.linked, name)
        library.undo()
        library.tool("one", 0)
        library.drop("deep")
        self.assertRaises(NotFlat, library.outcome, "two")
        with self.assertRaises(TooMany) as caught:
            library.outcome(name)
        self.assertEqual(caught.exception.most, 5000)

    def test_outcomes(self):
        library = Library(DUTY)
        library.tool("two", TWO)
        library.tool("one", 0)
        library.tool("s", (0, 0))
        library.define("twice", (("x", 0), "@", "@", "two", "x", "x"))
        library.define("four", ("@", "twice", "@", "twice", "one"))
        self.assertEqual(library.outcome("four"), ("two", "two", "one", "one", "two", "one", "one"))
        self.assertEqual(library.outcome("four"), library.copy().outcome("four"))
        library.define("twice", ("s",))
        self.assertEqual(library.outcome("four"), ("s", "s", "one"))
        library.define("one", ("zero",))
        self.assertRaises(NotWhole, library.outcome, "four")
        library.tool("zero", 0)
        self.assertEqual(library.outcome("four"), ("s", "s", "zero"))
        library.relot(FREE)
        self.assertEqual(library.outcome("four"), ("s", "s", "zero"))
        library.undo()
        library.undo()
        library.undo()
        library.undo()
        self.assertEqual(library.outcome("four"), ("two", "two", "one", "one", "two", "one", "one"))
        self.assertEqual(library.outcome("one"), ("one",))
        self.assertRaises(NotFlat, library.outcome, "two")
        self.assertRaises(NotFlat, library.outcome, "twice")

    def test_outcomes_behind_edits_further_on(self):
        library = Library(FREE)
        library.tool("one", 0)
        library.tool("two", 0)
        for name, other in (("a", "b"), ("b", "c"), ("c", "d"), ("d", "one")):
            library.define(name, (other,))
        self.assertEqual(library.outcome("a"), ("one",))
        library.define("d", ("two",))
        self.assertEqual([library.outcome(name) for name in "abcd"], [("two",)] * 4)
        library.undo()
        self.assertEqual([library.outcome(name) for name in "abcd"], [("one",)] * 4)
        library.define("c", ("two",))
        self.assertEqual([library.outcome(name) for name in "abcd"], [("two",)] * 3 + [("one",)])
        library.drop("d")
        self.assertEqual([library.outcome(name) for name in "abc"], [("two",)] * 3)
        library.wish("c", 0)
        self.assertRaises(NotWhole, library.outcome, "a")
        library.drop("c")
        self.assertRaises(NotWhole, library.outcome, "a")

    def test_others_that_are_too_great(self):
        library, name = self.doubled(60, 601)
        library.define("twice", ("@", "@", "two", "one", "one"))
        library.define("a", ("twice",))
        self.assertEqual(library.linked("a"), ("@", "@", "two", "one", "one"))
        self.assertEqual(library.outcome("a"), ("two", "one", "one"))
        self.assertRaises(TooMany, library.linked, name)

    def test_just_20000_moves(self):
        for wanted in (19999, 20000, 20001):
            program = with_moves(wanted)
            library = Library(FREE)
            library.tool("two", TWO)
            library.tool("one", 0)
            library.tool("s", (0, 0))
            library.define("a", ("b",))
            library.define("b", program)
            if wanted <= 20000:
                self.assertEqual(library.outcome("a"), outcome(Book(FREE, (("two", TWO), ("one", 0), ("s", (0, 0)))), program))
            else:
                with self.assertRaises(TooMany) as caught:
                    library.outcome("a")
                self.assertIs(caught.exception.__class__, TooMany)
                self.assertEqual(caught.exception.most, 20000)
                run = Run(Book(FREE, (("two", TWO), ("one", 0), ("s", (0, 0)))), library.linked("a"))
                while run.outcome() is None:
                    run.move()
                self.assertEqual(run.moves(), wanted)

    def test_outcome_is_the_plain_program_without_uses(self):
        library = Library(DUTY)
        library.tool("two", TWO)
        library.tool("one", 0)
        library.define("f", (("g", (0, 0)), ("x", 0), "@", "g", "@", "g", "x"))
        library.define("h", ("@", "@", "f", ("x", 0), "@", "@", "two", "x", "x", "one"))
        book = Book(DUTY, (("two", TWO), ("one", 0)))
        self.assertEqual(library.outcome("h"), tuple(word for word in plain(book, (), library.linked("h")) if word != "@"))


if __name__ == "__main__":
    unittest.main()
