"""Objects of many kinds, for tests of what is handed in wrongly."""

import usecounts.errors
from usecounts.houses import House
from usecounts.judging import Book
from usecounts.library import Library
from usecounts.lots import Lot, RawLot
from usecounts.machine import Run


def nested(deep, wrap, core):
    """The core, wrapped so often."""
    for _ in range(deep):
        core = wrap(core)
    return core


def odd_things():
    """Objects that are no integer, no tuple, no word and no Lot of use, one of each sort."""
    ring = [1]
    return [
        None, True, False, NotImplemented, Ellipsis, object, int, len, odd_things, iter(()),
        "", "a", "one", "more ", "1", "x" * 20000, "\n", b"", b"once", b"1", bytearray(b"1"), memoryview(b"1"),
        [], [1], ["once"], ring, (), ("once",), (None,), ((),), ([],), {}, {"once": 1}, {0: (0, 0)}, range(3),
        slice(1, 2), object(), usecounts.errors, usecounts.errors.NoKind(), usecounts.errors.BadLot("word"),
        Lot("once", ()), Lot("more", (2, 3)), RawLot((), (True,)), ValueError("x"),
        Book(Lot("loan", ()), (("odd", 0),)), Run(Book(Lot("free", ()), (("one", 0),)), ("one",)), Book, Run, (Lot("once", ()), ()),
        House(Lot("free", ()), ((0, 1), (1, 0)), {0: (0, 1)}), House, Library(Lot("more", (2,))), Library, ("made", ("a",)), ("not", None),
        nested(40, lambda core: [core], 0), nested(40, lambda core: (core,), 0), nested(40, lambda core: {0: core}, 0),
        nested(40, lambda core: (0, core), 0), nested(40, lambda core: (core, 0), "a"), nested(30, lambda core: [core], ()),
        [0] * 10000, (0,) * 10000, ("a",) * 10000, ((),) * 9999, {at: at for at in range(5000)},
    ]


def odd_integers():
    """Integers far out."""
    return [-1, -2, 26, 10001, 10 ** 29, -10 ** 29]
