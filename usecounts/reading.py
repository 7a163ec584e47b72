"""Kinds and programs that are read from their texts.

All of it goes along the signs, without a call for each bracket: texts may be
too deep for that.
"""

from usecounts.errors import BadText, NoKind, NoProgram
from usecounts.kinds import is_kind
from usecounts.names import LONGEST_NAME, NAME_LETTERS
from usecounts.programs import is_program
from usecounts.shapes import USE

NO_STRING = -1


def read_kind(text):
    """The kind with this text."""
    kind = kind_of_text(text)
    if not is_kind(kind):
        raise NoKind()
    return kind


def read_program(text):
    """The program with this text."""
    program = program_of_text(text)
    if not is_program(program):
        raise NoProgram()
    return program


def kind_of_text(text):
    """The kind with this text, however great."""
    reading = Reading(text)
    kind = reading.kind()
    reading.need_end()
    return kind


def program_of_text(text):
    """The program with this text, however great."""
    reading = Reading(text)
    program = reading.program()
    reading.need_end()
    return program


class Reading:
    """A text that is read from the front, and the place of the next sign."""

    def __init__(self, text):
        if not isinstance(text, str):
            raise BadText(NO_STRING)
        self._text = text
        self._at = 0

    def _goes_on(self, sign):
        """Whether the next sign is this one."""
        return self._at < len(self._text) and self._text[self._at] == sign

    def _is_letter(self):
        """Whether the next sign is a letter."""
        return self._at < len(self._text) and self._text[self._at] in NAME_LETTERS

    def _need(self, signs):
        for sign in signs:
            if not self._goes_on(sign):
                raise BadText(self._at)
            self._at += 1

    def need_end(self):
        """Raise BadText if some sign is left over."""
        if self._at < len(self._text):
            raise BadText(self._at)

    def _letter(self):
        if not self._is_letter():
            raise BadText(self._at)
        self._at += 1
        return self._text[self._at - 1]

    def _name(self):
        name = self._letter()
        while self._is_letter() and len(name) < LONGEST_NAME:
            name += self._letter()
        return name

    def kind(self):
        """Read a kind, as far as it goes."""
        # The lefts so far of the kinds that go on here, the innermost last.
        around = [[]]
        while True:
            if self._goes_on("("):
                self._need("(")
                around.append([])
                continue
            kind = NAME_LETTERS.index(self._letter())
            # In brackets that have no left yet the letter is one.
            if self._goes_on(" ") or (len(around) > 1 and not around[-1]):
                self._need(" > ")
                around[-1].append(kind)
                continue
            lefts = around.pop()
            for left in reversed(lefts):
                kind = (left, kind)
            if not around:
                return kind
            self._need(") > ")
            around[-1].append(kind)

    def program(self):
        """Read a program, as far as it goes."""
        words = []
        # What has to stand behind the parts that go on here, the innermost
        # last: a blank behind what is handed something, a bracket behind that.
        behind = []
        while True:
            if self._goes_on("("):
                self._need("(")
                words.append(USE)
                behind.append(" ")
                continue
            if self._goes_on("["):
                words.append(self._take())
                continue
            words.append(self._name())
            while behind and behind[-1] == ")":
                self._need(behind.pop())
            if not behind:
                return tuple(words)
            self._need(behind.pop())
            behind.append(")")

    def _take(self):
        self._need("[")
        name = self._name()
        self._need(":")
        kind = self.kind()
        self._need("] ")
        return (name, kind)
