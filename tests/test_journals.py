"""11.1: journals, and libraries that are recovered from them."""

import random
import unittest

from usecounts.errors import CountsError, NoText
from usecounts.journals import recovered
from usecounts.kinds import built
from usecounts.library import Library
from usecounts.lots import Lot, around, common
from usecounts.programs import is_program
from usecounts.reading import kind_of_text, program_of_text
from tests.odd_things import nested, odd_integers, odd_things
from tests.slow_library import LOTS, SlowLibrary, lot_words, some_edit
from tests.test_library import NAMES, snapshot
from tests.test_reading import bad_index

ONCE, LOAN, FREE = Lot("once", ()), Lot("loan", ()), Lot("free", ())
ODD, DUTY = Lot("more", (2,)), Lot("more", (1,))


def checked(text):
    """The record of a text, with its check and line feed."""
    return f"{text} #{sum(place * ord(sign) for place, sign in enumerate(text, 1)) % 9973}\n"


def is_word(text):
    return 1 <= len(text) <= 8 and all(sign in "abcdefghijklmnopqrstuvwxyz" for sign in text)


def least_makers(makers):
    """The makers that are no sum of lesser ones."""
    sums = {0}
    for number in range(1, max(makers) + 1):
        if any(number - maker in sums for maker in makers if maker < number):
            sums.add(number)
        elif number in makers:
            sums.add(number)
    return [maker for maker in sorted(set(makers)) if not any(maker - other in sums for other in makers if other < maker)]


def read_lot(text):
    word, *rest = text.split(" ")
    if word in ("once", "loan", "free") and not rest:
        return Lot(word, ())
    if word != "more" or not rest or not all(maker.isdigit() and maker[0] != "0" and len(maker) < 6 for maker in rest):
        return None
    makers = [int(maker) for maker in rest]
    if max(makers) > 30000 or least_makers(makers) != makers:
        return None
    return made_lot(tuple(makers))


def made_lot(makers):
    """A Lot with these makers, which are of those that the package may return."""
    if makers in GREAT:
        return GREAT[makers]
    found = Lot("more", makers[:1])
    for maker in makers:
        found = around(found, Lot("more", (maker,)))
    return found


# Lots with more and greater makers than a call of Lot lets.
GREAT = {}
for one in [(11,), (7, 9), (5, 7), (10, 11), (8, 9, 11), (2,), (3,), (4, 6)]:
    for other in [(12,), (11,), (9, 10), (5, 6), (7,), (3, 5), (2,)]:
        for way in (common, around):
            lot = way(Lot("more", one), Lot("more", other))
            GREAT[lot.makers] = lot


def slow_step(slow, line):
    """Do what a line records in a slow library: whether it is right."""
    told, mark, check = line.rpartition(" #")
    if not mark or checked(told) != line + "\n":
        return False
    word, _, rest = told.partition(" ")
    name, _, text = rest.partition(" ")
    if told == "undo" and slow.many > 0:
        slow.undo()
    elif told == "redo" and slow.many < len(slow.edits):
        slow.redo()
    elif word in ("tool", "wish") and is_word(name) and bad_index("K", text) is None:
        if word == "tool" and len([tool for tool, _ in slow.now.tools() if tool != name]) >= 8:
            return False
        getattr(slow, word)(name, kind_of_text(text))
    elif word == "define" and is_word(name) and bad_index("P", text) is None:
        slow.define(name, program_of_text(text))
    elif word == "drop" and rest in slow.now.entries:
        slow.drop(rest)
    elif word == "relot" and read_lot(rest) is not None:
        slow.relot(read_lot(rest))
    else:
        return False
    return True


def slow_recovered(journal):
    """The slow library of a journal and how many signs it takes; None for no first record."""
    lines = journal.split("\n")[:-1]
    if not lines:
        return None
    told, mark, _ = lines[0].rpartition(" #")
    if not mark or checked(told) != lines[0] + "\n" or not told.startswith("relot ") or read_lot(told[6:]) is None:
        return None
    slow, many = SlowLibrary(read_lot(told[6:])), len(lines[0]) + 1
    for line in lines[1:]:
        if not slow_step(slow, line):
            break
        many += len(line) + 1
    return slow, many


def some_libraries(many, seed, edits=14):
    for at in range(many):
        chance = random.Random(seed + at)
        lot = chance.choice(LOTS)
        library, slow = Library(lot), SlowLibrary(lot)
        for _ in range(edits):
            word, arguments = some_edit(chance, slow, NAMES[:5], True)
            getattr(library, word)(*arguments)
            getattr(slow, word)(*arguments)
        yield chance, library, slow


class JournalsTest(unittest.TestCase):

    def agree(self, journal):
        """Recover a journal, and hold it against the slow account."""
        told = slow_recovered(journal)
        if told is None:
            with self.assertRaises(NoText) as caught:
                recovered(journal)
            self.assertIs(caught.exception.__class__, NoText)
            return 0
        slow, signs = told
        row = recovered(journal)
        self.assertIsInstance(row, tuple)
        library, many = row
        self.assertEqual(many, signs)
        self.assertEqual(library.journal(), journal[:many])
        self.assertEqual(library.journal(), slow.journal())
        self.assertEqual((library.changed(), library.judged(), library.depth()), (slow.changed(), slow.judged(), slow.many))
        self.assertEqual({name: library.entry(name) for name in library.names()}, slow.now.entries)
        self.assertEqual({name: library.kind(name) for name in library.names()}, slow.now.kinds)
        return signs

    def test_ordinary(self):
        library = Library(DUTY)
        self.assertEqual(library.journal(), checked("relot more 1"))
        self.assertEqual(library.journal(), "relot more 1 #6483\n")
        library.tool("one", 0)
        library.tool("two", (0, (0, 0)))
        library.define("f", (("x", (0, 1)), "@", "x", "one"))
        library.wish("w", (0, 0))
        library.fill("w")
        library.drop("one")
        library.undo()
        library.redo()
        library.relot(Lot("more", (3, 2, 4)))
        library.relot(FREE)
        rows = ["relot more 1", "tool one a", "tool two a > a > a", "define f [x:a > b] (x one)", "wish w a > a", "define w [a:a] a", "drop one", "undo", "redo",
                "relot more 2 3", "relot free"]
        self.assertEqual(library.journal(), "".join(map(checked, rows)))
        other, many = recovered(library.journal())
        self.assertEqual(many, len(library.journal()))
        self.assertEqual(snapshot(other), snapshot(library))

    def test_there_and_back(self):
        for _, library, slow in some_libraries(25, 300):
            self.assertEqual(library.journal(), slow.journal())
            self.assertEqual(self.agree(library.journal()), len(library.journal()))
            other, _ = recovered(library.journal())
            self.assertEqual(snapshot(other), snapshot(library))
            self.assertEqual(recovered(other.copy().journal())[0].journal(), library.journal())

    def test_cut_at_each_sign(self):
        for _, library, slow in some_libraries(6, 400):
            journal = library.journal()
            ends = [at + 1 for at, sign in enumerate(journal) if sign == "\n"]
            for cut in range(len(journal) + 1):
                whole = max([0] + [end for end in ends if end <= cut])
                self.assertEqual(self.agree(journal[:cut]), whole)

    def test_goes_on_as_the_elder_one(self):
        for chance, library, slow in some_libraries(20, 500):
            other, _ = recovered(library.journal())
            for _ in range(20):
                word, arguments = some_edit(chance, slow, NAMES[:5], True)
                for one in (library, slow, other):
                    getattr(one, word)(*arguments)
                self.assertEqual(snapshot(other), snapshot(library))
            for one in (library, other):
                while one.depth():
                    one.undo()
            self.assertEqual(snapshot(other), snapshot(library))

    def test_one_sign_another_one(self):
        taken = {}
        for chance, library, _ in some_libraries(5, 600, 7):
            journal = library.journal()
            for at in range(len(journal)):
                sign = chance.choice("abcdefgx12 #\n>()[]:@" + journal[at:at + 1])
                for changed in (journal[:at] + sign + journal[at + 1:], journal[:at] + sign + journal[at:], journal[:at] + journal[at + 1:]):
                    many = self.agree(changed)
                    taken[many > 0] = taken.get(many > 0, 0) + 1
        self.assertGreater(min(taken.values()), 30)

    def test_records_left_out_or_twice(self):
        for chance, library, _ in some_libraries(15, 700):
            lines = library.journal().splitlines(True)
            for at in range(len(lines)):
                self.agree("".join(lines[:at] + lines[at + 1:]))
                self.agree("".join(lines[:at] + lines[at:at + 1] * 2 + lines[at + 1:]))
                by = chance.randrange(len(lines))
                lines[at], lines[by] = lines[by], lines[at]
                self.agree("".join(lines))

    def test_records_without_a_form(self):
        library = Library(DUTY)
        library.tool("one", 0)
        library.define("f", ("one",))
        library.undo()
        journal, behind = library.journal(), checked("tool two a > a")
        wrong = ["", " ", "undo ", " undo", "Undo", "undo undo", "redo ", "redo x", "undone", "tool", "tool ", "tool x", "tool x ", "tool  x a", "tool x  a", "tool x a ",
                 "tool x A", "tool X a", "tool x (a)", "tool x a >", "tool x a > (b > c)", "tool abcdefghi a", "tool x a\ta", "tool x a #1", "tool a", "tool a > a",
                 "Tool x a", "tools x a", "define", "define x", "define x ", "define x (a", "define x (a b) ", "define x [y:a]y", "define x @ a b", "define X y",
                 "define x  y", "define x abcdefghi", "define y", "wish", "wish x", "wish x 0", "wish  a", "wish x a b", "drop", "drop ", "drop two", "drop  one",
                 "drop one ", "drop one one", "drop One", "relot", "relot ", "relot more", "relot more ", "relot free ", "relot  free", "relot free 1", "relot once 1",
                 "relot more 0", "relot more 01", "relot more 1 ", "relot more  1", "relot more 2 4", "relot more 3 2", "relot more 2 2", "relot more -1", "relot more 1.0",
                 "relot more 2 3 5", "relot more +2", "relot more 30001", "relot more 100000", "relot more 2 30001", "relot more one", "relot raw", "relot (2,)",
                 "relot More 1", "relot more 1_0", "relot more 4 6 9 13 30001", "fill x", "verdict x", "journal", "copy", "#", "define x y #1", "one", "relot more " + "9" * 6000,
                 "relot more 2 " + "1" * 9000, "relot more " + "0" * 5000 + "1", "kind one", "undo\rundo", "lot free", "relots free", "free free",
                 "re lot free", "tool free free", "undo free", "redo x", "fill one"]
        for text in wrong:
            self.assertEqual(self.agree(journal + checked(text) + behind), len(journal), text)
            self.assertEqual(self.agree(checked(text) + journal), 0)
        for text in ["redo", "undo", "tool x a", "wish x a > b", "define x y", "define x (x [x:a > a] x)", "drop one", "relot once", "relot more 5 6 7 8 9", "relot loan",
                     "relot more 2 3", "tool one (a > b) > c", "define undo redo", "wish tool a", "drop one"]:
            self.assertEqual(self.agree(journal + checked(text) + behind), len(journal + checked(text) + behind), text)

    def test_records_that_cannot_be_done(self):
        first = checked("relot free")
        for rows in [["undo"], ["redo"], ["drop x"], ["tool x a", "redo"], ["tool x a", "undo", "undo"], ["tool x a", "undo", "wish y a", "redo"], ["tool x a", "drop x", "drop x"],
                     [f"tool {name} a" for name in "abcdefghi"], ["wish i a"] + [f"tool {name} a" for name in "abcdefghi"]]:
            ahead = first + "".join(map(checked, rows[:-1]))
            self.assertEqual(self.agree(ahead + checked(rows[-1]) + checked("tool z a")), len(ahead), rows)
        rows = [f"tool {name} a" for name in "abcdefgha"] + ["wish i a", "define j a", "drop b", "tool i b"]
        self.assertEqual(self.agree(first + "".join(map(checked, rows))), len(first + "".join(map(checked, rows))))

    def test_wrong_checks(self):
        first, text, behind = checked("relot free"), "tool x a", checked("tool y a")
        check = int(checked(text)[len(text) + 2:])
        for wrong in [str(check + 1), str(check - 1), str(check + 9973), "0" + str(check), str(check) + "0", "", " " + str(check), str(check) + " ", "+" + str(check),
                      "x", "-1", str(check)[:-1], "#" + str(check), "9" * 5000, "0" * 5000 + str(check)]:
            self.assertEqual(self.agree(first + f"{text} #{wrong}\n" + behind), len(first))
            self.assertEqual(self.agree(f"relot free #{wrong}\n" + behind), 0)
        for wrong in [f"{text}#{check}\n", f"{text}  #{check}\n", f"{text} {check}\n", f"{text} # {check}\n", f"{text} #{check}\n\n", f"{text} #{check}"]:
            many = self.agree(first + wrong + behind)
            self.assertIn(many, (len(first), len(first + checked(text))))
        self.assertEqual(self.agree(first + f"{text} #{check}\r\n" + behind), len(first))
        self.assertEqual(self.agree(first + "0\n" + behind), len(first))
        self.assertEqual(self.agree(first + " #0\n" + behind), len(first))

    def test_great_makers(self):
        one = common(Lot("more", (11,)), Lot("more", (12,)))
        lots = [one, common(one, Lot("more", (5,))), common(Lot("more", (5, 7)), Lot("more", (8, 9, 11))), around(Lot("more", (10, 11)), Lot("more", (12,)))]
        lots.append(common(common(one, Lot("more", (7,))), common(Lot("more", (5,)), Lot("more", (9,)))))
        lots.append(common(lots[-1], Lot("more", (8,))))
        self.assertEqual(lots[-1].makers, (27720,))
        for lot in lots:
            library = Library(lot)
            self.assertEqual(library.journal(), checked("relot " + lot_words(lot)))
            library.define("f", (("x", 0), "x"))
            library.relot(FREE)
            library.relot(lot)
            library.undo()
            library.redo()
            if lot.makers[-1] <= 30000:
                other, many = recovered(library.journal())
                self.assertEqual(many, len(library.journal()))
                self.assertEqual(snapshot(other), snapshot(library))
        great = around(Lot("more", (1,)), FREE)
        self.assertEqual(recovered(checked("relot free"))[0].journal(), Library(great).journal())
        first = checked("relot once")
        for makers, told in [((29999,), True), ((30000,), True), ((30001,), False), ((15000, 29999), True), ((15000, 30000), False), ((13, 14, 15, 16, 17, 18), True),
                             ((20000, 30000), True), ((20000, 30001), False), ((13, 26), False), ((13, 14, 27), False), ((99999,), False)]:
            text = "relot more " + " ".join(map(str, makers))
            library, many = recovered(first + checked(text))
            self.assertEqual(many, len(first + checked(text)) if told else len(first))
            self.assertEqual(library.journal(), (first + checked(text))[:many])
            if told:
                self.assertEqual(recovered(checked(text))[0].journal(), checked(text))
            else:
                self.assertRaises(NoText, recovered, checked(text))

    def test_makers_above_30000_are_written_all_the_same(self):
        lot = common(common(Lot("more", (8, 11)), Lot("more", (9,))), common(Lot("more", (5,)), Lot("more", (7, 12))))
        lot = common(lot, Lot("more", (11, 12)))
        library = Library(FREE)
        library.relot(lot)
        library.tool("one", 0)
        self.assertIn(checked("relot " + lot_words(lot)), library.journal())
        if lot.makers[-1] > 30000:
            self.assertEqual(recovered(library.journal())[1], len(checked("relot free")))
        else:
            self.assertEqual(recovered(library.journal())[1], len(library.journal()))

    def test_great_programs_and_kinds(self):
        library = Library(FREE)
        library.define("f", ("@", "s") * 700 + ("one",))
        library.define("g", (("x", 0),) * 600 + ("f",))
        library.wish("w", built((0,) * 500, 0))
        library.tool("one", nested(300, lambda core: built((core,), 0), 0))
        self.assertFalse(is_program(library.entry("f")[1]))
        other, many = recovered(library.journal())
        self.assertEqual(many, len(library.journal()))
        self.assertEqual(snapshot(other), snapshot(library))
        self.assertEqual(recovered(library.journal()[:-1])[0].names(), ["f", "g", "w"])

    def test_long_lines(self):
        # The sign at place 9973 does not count for the check.
        library = Library(FREE)
        library.define("f", ("@", "s") * 4000 + ("one",))
        journal = library.journal()
        first = len(checked("relot free"))
        at = first + 9972
        changed = journal[:at] + ("z" if journal[at] == "s" else journal[at]) + journal[at + 1:]
        self.assertEqual(recovered(changed)[1], len(journal))
        changed = journal[:at] + "(" + journal[at + 1:] if journal[at] != "(" else journal[:at] + "s" + journal[at + 1:]
        self.assertEqual(recovered(changed)[1], first)

    def test_no_text(self):
        for thing in odd_things() + odd_integers() + ["relot", "relot \n", "relot free", "relot free\n", "relot free #", checked("relot free")[:-1], "\n", "\n" + checked("relot free"),
                                                      checked("tool one a"), checked("undo"), checked("relot"), checked("relot "), checked("relot more"), checked("once"),
                                                      " " + checked("relot free"), checked(" relot free"), checked("Relot free"), [checked("relot free")], b"relot free #1\n"]:
            with self.assertRaises(NoText) as caught:
                recovered(thing)
            self.assertIs(caught.exception.__class__, NoText)

    def test_errors_are_of_the_package(self):
        self.assertTrue(issubclass(NoText, CountsError))


if __name__ == "__main__":
    unittest.main()
