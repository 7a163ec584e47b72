"""0.3: the error classes, what they derive from, are made with and keep."""

import copy
import inspect
import unittest

import usecounts.errors
from usecounts.errors import CountsError
from tests.odd_things import nested, odd_integers, odd_things

FIELDS = {
    "BadLot": "part", "BadBook": "part", "BadHouse": "part", "BadText": "index",
    "Faulty": "fault", "TooMany": "most", "Unknown": "name",
}
WITHOUT = [
    "NoNumber", "NoKind", "NoProgram", "NoPlace", "NoHanded", "NoStep", "NotFlat", "NoFunctions", "IsOver",
    "NothingDone", "NotLet", "NoBag", "NoPart", "NoName", "Full", "NoWish", "NotMade", "NotWhole", "NoText",
]
CLASSES = {name: getattr(usecounts.errors, name) for name in [*FIELDS, *WITHOUT]}


def made(name):
    return CLASSES[name]("told") if name in FIELDS else CLASSES[name]()


class ErrorsTest(unittest.TestCase):

    def test_bases(self):
        self.assertEqual(CountsError.__bases__, (ValueError,))
        for one in CLASSES.values():
            self.assertEqual(one.__bases__, (CountsError,))

    def test_all_are_defined_in_the_file(self):
        found = dict(inspect.getmembers(usecounts.errors, inspect.isclass))
        self.assertEqual(sorted(found), sorted([*CLASSES, "CountsError"]))
        self.assertEqual({one.__module__ for one in found.values()}, {"usecounts.errors"})

    def test_no_error_is_another_one(self):
        for name in CLASSES:
            error = made(name)
            self.assertEqual([other for other in CLASSES if isinstance(error, CLASSES[other])], [name])
            self.assertIsInstance(error, CountsError)

    def test_fields_are_kept(self):
        deep = [nested(30, lambda core: [core], "x"), nested(30, lambda core: (core, {"a": core}), 1)]
        for name, field in FIELDS.items():
            self.assertEqual(list(inspect.signature(CLASSES[name]).parameters), [field])
            for thing in [0, 5, "text", "", (1, 2), [1, 2], {"a": 1}, *deep, *odd_things(), *odd_integers()]:
                error = CLASSES[name](thing)
                self.assertIs(getattr(error, field), thing)
                self.assertEqual(vars(error), {field: thing})

    def test_made_with_just_the_fields(self):
        for name in FIELDS:
            self.assertRaises(TypeError, CLASSES[name])
            self.assertRaises(TypeError, CLASSES[name], 1, 2)
        for name in WITHOUT:
            self.assertEqual(vars(CLASSES[name]()), {})
            self.assertRaises(TypeError, CLASSES[name], 1)

    def test_caught_with_the_field(self):
        for name in CLASSES:
            with self.assertRaises(CountsError) as caught:
                raise made(name)
            self.assertIs(caught.exception.__class__, CLASSES[name])
            if name in FIELDS:
                self.assertEqual(getattr(caught.exception, FIELDS[name]), "told")

    def test_copies(self):
        for name in CLASSES:
            error = copy.copy(made(name))
            self.assertIs(error.__class__, CLASSES[name])
            self.assertEqual(vars(error), vars(made(name)))


if __name__ == "__main__":
    unittest.main()
