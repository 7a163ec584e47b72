"""The interface: names, arguments, and the file in which each is defined."""

import importlib
import inspect
import unittest

FUNCTIONS = {
    "lots": {
        "holds": ["lot", "number"], "missing": ["lot"], "is_within": ["lot", "thing"], "common": ["lot", "other"],
        "around": ["lot", "other"], "told_lot": ["raw"],
    },
    "breaking": {"breaking": ["raw"], "is_breaking": ["raw", "thing"]},
    "kinds": {"is_kind": ["thing"], "lefts": ["kind"], "end": ["kind"], "built": ["lefts", "end"]},
    "programs": {
        "is_program": ["thing"], "is_same": ["program", "thing"], "part": ["program", "place"], "standard": ["program"],
        "open_names": ["program"], "counts": ["program"],
    },
    "judging": {"fault": ["book", "handed", "program"], "kind_of": ["book", "handed", "program"]},
    "stepping": {
        "steps": ["program"], "stepped": ["program", "place"], "counts_ahead": ["program", "place"],
        "rest": ["book", "handed", "program"], "plain": ["book", "handed", "program"], "is_row": ["program", "other", "thing"],
        "is_plain": ["book", "handed", "thing"],
    },
    "machine": {"outcome": ["book", "program"], "worth": ["book", "program", "functions"]},
    "bags": {"parts": ["book", "kind"], "things": ["book", "kind"], "is_made_by": ["book", "kind", "bag", "part", "thing"]},
    "houses": {"stands_with": ["house", "kind"], "is_against": ["book", "kind", "thing"], "lean": ["house"]},
    "tables": {"bag_house": ["book", "kind", "size"]},
    "finding": {
        "found": ["book", "kind"], "is_paper": ["book", "kind", "thing"], "needless": ["book"], "is_equal_help": ["book", "other"],
    },
    "numbers": {"counter": ["n"], "parting": ["lot", "other"]},
    "reading": {"read_kind": ["text"], "read_program": ["text"]},
    "journals": {"recovered": ["journal"]},
    "plains": {"many_plain": ["book", "kind", "names"], "plain_programs": ["book", "kind", "names"]},
    "texts": {"kind_text": ["kind"], "program_text": ["program"]},
}
CLASSES = {
    "lots": {"Lot": ["word", "makers"], "RawLot": ["heads", "rounds"]},
    "judging": {"Book": ["lot", "tools"]},
    "machine": {"Run": ["book", "program"]},
    "houses": {"House": ["lot", "joining", "letters"]},
    "library": {"Library": ["lot"]},
}
METHODS = {
    "lots": {"Lot": ["__eq__"], "RawLot": ["__eq__"]},
    "judging": {"Book": ["__eq__"]},
    "houses": {"House": ["__eq__"]},
    "machine": {"Run": ["move", "state", "moves", "tokens", "outcome", "back", "copy"]},
    "library": {"Library": [
        "tool", "define", "wish", "drop", "relot", "names", "entry", "kind", "why", "uses", "users", "changed", "judged", "verdict",
        "fill", "linked", "outcome", "undo", "redo", "depth", "copy", "journal",
    ]},
}
ARGUMENTS = {
    "__eq__": ["other"], "tool": ["name", "kind"], "define": ["name", "program"], "wish": ["name", "kind"], "relot": ["lot"],
    ("Library", "outcome"): ["name"],
    **{name: ["name"] for name in ("drop", "entry", "kind", "why", "uses", "users", "verdict", "fill", "linked")},
}


class InterfaceTest(unittest.TestCase):

    def test_each_stands_in_its_file(self):
        for told in (FUNCTIONS, CLASSES):
            for file, rows in told.items():
                module = importlib.import_module("usecounts." + file)
                for name, arguments in rows.items():
                    found = getattr(module, name)
                    self.assertEqual(found.__module__, "usecounts." + file)
                    self.assertEqual(list(inspect.signature(found).parameters), arguments)

    def test_methods_stand_in_the_class_itself(self):
        for file, rows in METHODS.items():
            module = importlib.import_module("usecounts." + file)
            for name, methods in rows.items():
                for method in methods:
                    self.assertTrue(inspect.isfunction(vars(getattr(module, name))[method]), (name, method))
                    arguments = list(inspect.signature(vars(getattr(module, name))[method]).parameters)
                    wanted = ARGUMENTS.get((name, method), ARGUMENTS.get(method, []))
                    self.assertEqual(arguments, ["self"] + wanted, (name, method))


if __name__ == "__main__":
    unittest.main()
