"""Libraries that are recovered from their journals, wherever these were cut."""

from usecounts.errors import CountsError, NoText
from usecounts.library import Library
from usecounts.reading import kind_of_text, program_of_text
from usecounts.records import read_lot, told_by


def recovered(journal):
    """The library of a journal, as far as its records are whole and right, and how many signs these take."""
    if not isinstance(journal, str):
        raise NoText()
    # What stands behind the last line feed is no whole record.
    lines = journal.split("\n")[:-1]
    library = _first_library(lines)
    many = len(lines[0]) + 1
    for line in lines[1:]:
        if not _is_done(library, line):
            break
        many += len(line) + 1
    return (library, many)


def _first_library(lines):
    if not lines:
        raise NoText()
    word, rest = _parted(told_by(lines[0]))
    if word != "relot" or rest is None:
        raise NoText()
    lot = read_lot(rest)
    if lot is None:
        raise NoText()
    return Library(lot)


def _parted(told):
    """What a record tells, at its first blank: the word, and what is behind, None if there is no blank."""
    if told is None:
        return (None, None)
    word, blank, rest = told.partition(" ")
    if blank == "":
        return (word, None)
    return (word, rest)


def _is_done(library, line):
    """Do what a line records; False if it is not right."""
    word, rest = _parted(told_by(line))
    try:
        if rest is None:
            return _is_turned(library, word)
        return _is_edited(library, word, rest)
    except CountsError:
        return False


def _is_turned(library, word):
    if word == "undo":
        library.undo()
    elif word == "redo":
        library.redo()
    else:
        return False
    return True


def _is_edited(library, word, rest):
    name, _, text = rest.partition(" ")
    if word == "tool":
        library.tool(name, kind_of_text(text))
    elif word == "define":
        library.define(name, program_of_text(text))
    elif word == "wish":
        library.wish(name, kind_of_text(text))
    elif word == "drop":
        library.drop(rest)
    elif word == "relot":
        # What is no lot is refused by the library.
        library.relot(read_lot(rest))
    else:
        return False
    return True
