"""The interface: names, arguments, and the file in which each is defined."""

import importlib
import inspect
import unittest

FUNCTIONS = {
    "lots": {
        "holds": ["lot", "number"], "missing": ["lot"], "is_within": ["lot", "thing"], "common": ["lot", "other"],
        "around": ["lot", "other"], "told_lot": ["raw"],
    },
    "breaking": {"breaking": ["raw"], "is_breaking": ["raw", "thing"]},
    "kinds": {"is_kind": ["thing"], "lefts": ["kind"], "end": ["kind"], "built": ["lefts", "end"]},
    "programs": {
        "is_program": ["thing"], "is_same": ["program", "thing"], "part": ["program", "place"], "standard": ["program"],
        "open_names": ["program"], "counts": ["program"],
    },
    "judging": {"fault": ["book", "handed", "program"], "kind_of": ["book", "handed", "program"]},
    "stepping": {
        "steps": ["program"], "stepped": ["program", "place"], "counts_ahead": ["program", "place"],
        "rest": ["book", "handed", "program"], "plain": ["book", "handed", "program"], "is_row": ["program", "other", "thing"],
        "is_plain": ["book", "handed", "thing"],
    },
}
CLASSES = {
    "lots": {"Lot": ["word", "makers"], "RawLot": ["heads", "rounds"]},
    "judging": {"Book": ["lot", "tools"]},
}


class InterfaceTest(unittest.TestCase):

    def test_each_stands_in_its_file(self):
        for told in (FUNCTIONS, CLASSES):
            for file, rows in told.items():
                module = importlib.import_module("usecounts." + file)
                for name, arguments in rows.items():
                    found = getattr(module, name)
                    self.assertEqual(found.__module__, "usecounts." + file)
                    self.assertEqual(list(inspect.signature(found).parameters), arguments)

    def test_classes_have_their_own_equality(self):
        for file, rows in CLASSES.items():
            module = importlib.import_module("usecounts." + file)
            for name in rows:
                self.assertIn("__eq__", vars(getattr(module, name)))


if __name__ == "__main__":
    unittest.main()
