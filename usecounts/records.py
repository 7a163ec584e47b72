"""The records of a journal: lines with checks."""

from usecounts.lots import Lot, lot_of_makers

BEHIND = 9973
GREATEST_RECORDED = 30000
FIGURES = "0123456789"


def record(told):
    """The line, with its line feed, that records what is told."""
    return told + " #" + str(_check(told)) + "\n"


def told_by(line):
    """What a line without its line feed tells; None if its check is not right."""
    told, mark, check = line.rpartition(" #")
    if mark == "" or check != str(_check(told)):
        return None
    return told


def _check(told):
    return sum([place * ord(sign) for place, sign in enumerate(told, start=1)]) % BEHIND


def lot_text(lot):
    """The text of a lot: its word and its makers."""
    return " ".join([lot.word] + [str(maker) for maker in lot.makers])


def read_lot(text):
    """The lot with this text; None if there is none."""
    words = text.split(" ")
    if words[0] == "more" and len(words) > 1:
        return _read_more(words[1:])
    if len(words) > 1 or words[0] not in ("once", "loan", "free"):
        return None
    return Lot(words[0], ())


def _read_more(words):
    """The lot with makers that are written so, if these are just what its attribute would be; or None."""
    if not all([_is_recorded_maker(word) for word in words]):
        return None
    makers = tuple([int(word) for word in words])
    lot = lot_of_makers(makers)
    if lot.makers != makers:
        return None
    return lot


def _is_recorded_maker(word):
    """Whether a word is a number from 1 to the greatest maker in records, with no figure too many."""
    # Words of thousands of figures can't be made numbers.
    if not 1 <= len(word) <= len(str(GREATEST_RECORDED)):
        return False
    if not all([sign in FIGURES for sign in word]):
        return False
    return word[0] != "0" and int(word) <= GREATEST_RECORDED
