"""2.1: kinds."""

import itertools
import unittest

from usecounts.errors import NoKind
from usecounts.kinds import built, end, is_kind, lefts
from tests.odd_things import nested, odd_integers, odd_things


def balanced(letters):
    """A kind with so many letters, its pairs nested as little as can be."""
    if letters == 1:
        return 3
    return (balanced(letters // 2), balanced(letters - letters // 2))


def small_kinds(deep):
    if deep == 0:
        return [0, 25]
    less = small_kinds(deep - 1)
    return less + [pair for pair in itertools.product(less, less)]


def no_kinds():
    """Things that are no kind of any size."""
    rows = [26, -1, (0,), (0, 1, 2), [0, 1], (0, [0, 1]), ([0, 1], 0), (True, 0), (0, False), (0, 26), (-1, 0), ((0, 1), "a")]
    rows += ["ab", b"ab", (0, "b"), ("a", 0), (0, None), (None, 0), (0, (0, (0, (0, 0, 0)))), ((0, ()), 0), {0: 1}, (0, b"\x01")]
    rows += [nested(39, lambda core: (0, core), 26), nested(39, lambda core: (core, 0), True), (balanced(4000), "x"), ("x", balanced(4000))]
    odd = [thing for thing in odd_things() if not is_tree(thing)]
    return rows + odd + odd_integers()


def is_tree(thing):
    """Whether a thing is a kind, told by calls of its own: for things that are not too deep."""
    if isinstance(thing, tuple) and len(thing) == 2:
        return is_tree(thing[0]) and is_tree(thing[1])
    return thing.__class__ is int and 0 <= thing <= 25


class IsKindTest(unittest.TestCase):

    def test_letters(self):
        for letter in range(26):
            self.assertIs(is_kind(letter), True)
        for thing in (26, -1, 100, -26, 10 ** 29, True, False):
            self.assertIs(is_kind(thing), False)

    def test_pairs(self):
        for kind in ((0, 0), (25, 0), ((0, 1), 2), (0, (1, 2)), ((0, (0, 1)), (0, 1))):
            self.assertIs(is_kind(kind), True)

    def test_what_is_none(self):
        for thing in no_kinds():
            self.assertIs(is_kind(thing), False)

    def test_letters_to_60(self):
        self.assertIs(is_kind(balanced(59)), True)
        self.assertIs(is_kind(balanced(60)), True)
        self.assertIs(is_kind(balanced(61)), False)
        self.assertIs(is_kind(balanced(10000)), False)

    def test_pairs_nested_to_30(self):
        for wrap in (lambda core: (core, 0), lambda core: (0, core)):
            self.assertIs(is_kind(nested(29, wrap, 1)), True)
            self.assertIs(is_kind(nested(30, wrap, 1)), True)
            self.assertIs(is_kind(nested(31, wrap, 1)), False)
            self.assertIs(is_kind((nested(29, wrap, 1), nested(29, wrap, 1))), True)
            self.assertIs(is_kind((nested(30, wrap, 1), 0)), False)
            self.assertIs(is_kind((0, nested(30, wrap, 1))), False)
        self.assertIs(is_kind((nested(29, wrap, 1), nested(28, wrap, 1))), True)

    def test_nested_30_with_60_letters(self):
        kind = nested(29, lambda core: (0, core), 1)
        self.assertIs(is_kind((kind, kind)), True)
        self.assertIs(is_kind((kind, ((0, 0), kind[1]))), False)
        self.assertIs(is_kind((kind, ((0, 0), kind[1][1]))), True)

    def test_the_same_pair_again_and_again(self):
        self.assertIs(is_kind(nested(40, lambda core: (core, core), 0)), False)
        self.assertIs(is_kind(nested(5, lambda core: (core, core), 0)), True)
        self.assertIs(is_kind(nested(6, lambda core: (core, core), 0)), False)


class PartsTest(unittest.TestCase):

    def test_ordinary(self):
        self.assertEqual((lefts(4), end(4), built((), 4)), ((), 4, 4))
        self.assertEqual((lefts((0, 1)), end((0, 1)), built((0,), 1)), ((0,), 1, (0, 1)))
        kind = ((0, (0, 1)), (2, 3))
        self.assertEqual((lefts(kind), end(kind)), (((0, (0, 1)), 2), 3))
        self.assertEqual(built(((0, (0, 1)), 2), 3), kind)

    def test_there_and_back(self):
        for kind in small_kinds(3):
            self.assertEqual(built(lefts(kind), end(kind)), kind)
            self.assertIs(lefts(kind).__class__, tuple)
            self.assertEqual(end(kind).__class__, int)
        for parts in itertools.product(small_kinds(1), repeat=3):
            self.assertEqual(lefts(built(parts, 7)), parts)
            self.assertEqual(end(built(parts, 7)), 7)

    def test_no_kind(self):
        for thing in no_kinds():
            self.assertRaises(NoKind, lefts, thing)
            self.assertRaises(NoKind, end, thing)
            self.assertRaises(NoKind, built, (thing,), 0)
            self.assertRaises(NoKind, built, (0, thing), 0)
            self.assertRaises(NoKind, built, (thing, 0), 0)

    def test_built_with_no_tuple(self):
        for thing in [*odd_things(), *odd_integers(), [], [0], [(0, 1)], {}, {0: 1}, 0, 5, "", b"a", None]:
            if not isinstance(thing, tuple):
                self.assertRaises(NoKind, built, thing, 0)
                self.assertRaises(NoKind, built, thing, None)

    def test_built_with_no_letter(self):
        for thing in [*odd_things(), *odd_integers(), (0, 1), ((0, 1), 2), 26, -1, True, "a"]:
            self.assertRaises(NoKind, built, (), thing)
            self.assertRaises(NoKind, built, ((0, 1),), thing)
            self.assertRaises(NoKind, built, [], thing)


class GreatKindsTest(unittest.TestCase):

    def test_deep_in_the_left(self):
        kind = 5
        for _ in range(1500):
            kind = built((kind,), 1)
        self.assertIs(is_kind(kind), False)
        self.assertEqual((len(lefts(kind)), end(kind)), (1, 1))
        inner = lefts(kind)[0]
        self.assertIs(is_kind(inner), False)
        for _ in range(1499):
            inner = lefts(inner)[0]
        self.assertEqual(inner, 5)
        again = built((kind, 2, kind), 3)
        self.assertEqual((len(lefts(again)), lefts(again)[1], end(again)), (3, 2, 3))

    def test_deep_in_the_right(self):
        row = tuple(at % 26 for at in range(3000))
        kind = built(row, 9)
        self.assertIs(is_kind(kind), False)
        self.assertEqual((lefts(kind), end(kind)), (row, 9))
        deeper = built((kind, kind), 8)
        self.assertEqual([lefts(left) for left in lefts(deeper)], [row, row])
        self.assertEqual(end(deeper), 8)

    def test_many_letters(self):
        kind = 0
        for _ in range(12):
            kind = built((kind, kind), 1)
        self.assertIs(is_kind(kind), False)
        self.assertEqual((len(lefts(kind)), end(kind)), (2, 1))

    def test_deep_and_wrong(self):
        wrong = nested(1500, lambda core: (core, 0), "x")
        self.assertIs(is_kind(wrong), False)
        self.assertRaises(NoKind, lefts, wrong)
        self.assertRaises(NoKind, end, wrong)


if __name__ == "__main__":
    unittest.main()
