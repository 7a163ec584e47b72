"""How the words of a program make parts, and to which take each of its names belongs.

All of it goes along the words, without a call for each part: programs may be
too deep for that.
"""

from usecounts.basics import is_integer_within, is_pair
from usecounts.errors import NoProgram
from usecounts.kinds import is_kind_of_any_size
from usecounts.names import is_name

USE = "@"


def is_take(word):
    """Whether a word of a program is a take."""
    return isinstance(word, tuple)


def is_made_of_words(thing, is_fit):
    """Whether a thing is a program the kinds in which are fit, told by a function."""
    if not isinstance(thing, tuple):
        return False
    # From behind: how many programs, one behind another, the words make so far.
    many = 0
    for word in reversed(thing):
        if isinstance(word, str) and word == USE:
            if many < 2:
                return False
            many -= 1
        elif is_name(word):
            many += 1
        elif many < 1 or not _is_fit_take(word, is_fit):
            return False
    return many == 1


def _is_fit_take(word, is_fit):
    return is_pair(word) and is_name(word[0]) and is_fit(word[1])


def need_program(thing):
    """Raise NoProgram for what is no program of any size."""
    if not is_program_of_any_size(thing):
        raise NoProgram()


def is_program_of_any_size(thing):
    """Whether a thing is a program, however great."""
    return is_made_of_words(thing, is_kind_of_any_size)


def end_of_part(words, place):
    """The place behind the part at a place."""
    lacking = 1
    while lacking:
        if words[place] == USE:
            lacking += 1
        elif not is_take(words[place]):
            lacking -= 1
        place += 1
    return place


def ends_of_parts(words):
    """The list of the places behind the parts at each place."""
    ends = [0] * len(words)
    for place in reversed(range(len(words))):
        if words[place] == USE:
            ends[place] = ends[ends[place + 1]]
        elif is_take(words[place]):
            ends[place] = ends[place + 1]
        else:
            ends[place] = place + 1
    return ends


def is_step(words, place):
    """Whether a thing is the place of a use whose f is a take."""
    return is_integer_within(0, len(words) - 2, place) and words[place] == USE and is_take(words[place + 1])


class Shape:
    """A program with what is told of each of its places.

    words: the program.
    ends: the place behind the part there.
    takers: the place of the take to which the name there belongs; None for
    names that are open and for other words.
    """

    def __init__(self, program):
        self.words = program
        self.ends = ends_of_parts(program)
        self.takers = _takers(program, self.ends)

    def is_open(self, place):
        """Whether a name that is open stands at a place."""
        word = self.words[place]
        return self.takers[place] is None and word != USE and not is_take(word)

    def open_places(self):
        """The list of the places of names that are open."""
        return [place for place in range(len(self.words)) if self.is_open(place)]

    def takes(self):
        """The list of the places of takes."""
        return [place for place, word in enumerate(self.words) if is_take(word)]

    def counts(self):
        """The dict from open names, and from places of takes, to how often these names stand."""
        found = {place: 0 for place in self.takes()}
        for place in self.open_places():
            found[self.words[place]] = found.get(self.words[place], 0) + 1
        for taker in self.takers:
            if taker is not None:
                found[taker] += 1
        return found


def _takers(words, ends):
    takers = [None] * len(words)
    # The places of the takes whose bodies go on here, and those of each name.
    around = []
    around_of = {}
    for place in range(len(words)):
        while around and ends[around[-1]] == place:
            around_of[words[around.pop()][0]].pop()
        word = words[place]
        if is_take(word):
            around.append(place)
            around_of.setdefault(word[0], []).append(place)
        elif around_of.get(word):
            takers[place] = around_of[word][-1]
    return takers
