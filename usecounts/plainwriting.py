"""Writes the plain programs that the tables of openings tell.

The words of an opening are tuples; in these stand, beside "@" and names of
tools: pairs (TAKE, kind); pairs (TAKEN, kind) for names that are still to be
taken; and integers for names that are taken, each of which tells how many words
ahead its take stands, so that an opening may be put anywhere.
"""

from itertools import combinations

from usecounts.names import new_names
from usecounts.shapes import USE

TAKE = 0
TAKEN = 1


class PlainWriting:
    """Writes all openings of a kind, or just one with the least number of words."""

    def __init__(self, plains, is_for_one):
        self._plains = plains
        self._is_for_one = is_for_one
        self._written = {}

    def programs(self, names):
        """The list of the programs of the task with so many names, standard, each once.

        The tables have been grown to so many names.
        """
        if 0 not in self._plains.made[self._plains.wanted][names]:
            return []
        return [self._program_of(words) for words in self._openings(self._plains.wanted, names, 0)]

    def _openings(self, number, names, bag):
        """The list of the words of openings of a kind, with names still to be taken as the bag tells."""
        key = (number, names, bag)
        if key not in self._written:
            found = []
            for stands, inside in self._rows_of_stands(number, names, bag):
                bodies = self._bodies(self._plains.table.end(number), names, inside)
                found.extend(self._taken(number, stands, bodies))
            self._written[key] = found
        return self._written[key]

    def _rows_of_stands(self, number, names, bag):
        """Pairs of how often the names of all takes of a kind stand, and the bag in the body behind them."""
        table = self._plains.table
        found = [((), bag)]
        while table.is_pair_number(number):
            unit = self._plains.units[table.left(number)]
            number = table.right(number)
            bodies = self._plains.made[number][names]
            ways = []
            for stands, outside in found:
                for many in range(names + 1):
                    inside = outside + many * unit
                    if self._plains.lot.has(many) and inside in bodies:
                        ways.append((bodies[inside][1], stands + (many,), inside))
            found = [(stands, inside) for _, stands, inside in self._chosen(ways)]
        return found

    def _chosen(self, ways):
        """All ways, or one, of those with the least first item, if one is enough."""
        if not self._is_for_one:
            return ways
        least = min([way[0] for way in ways])
        return [way for way in ways if way[0] == least][:1]

    def _bodies(self, letter, names, bag):
        """The list of the words of openings of a letter."""
        ways = []
        for word, number, unit in self._plains.heads.get(letter, []):
            # A bag without a name of the kind comes to no key of the tables.
            rest = bag - unit
            rows = self._plains.handed[number][names - 1]
            if rest in rows:
                first = (TAKEN, number) if word is None else word
                ways.append((rows[rest][1], number, rest, (first,)))
        found = []
        for _, number, rest, first in self._chosen(ways):
            uses = (USE,) * len(self._plains.table.lefts(number))
            for words in self._rows_handed(number, names - 1, rest):
                found.append(uses + first + words)
        return found

    def _rows_handed(self, number, names, bag):
        """The list of the words of rows of openings that are handed to a name of a kind."""
        table = self._plains.table
        found = [((), names, bag)]
        while table.is_pair_number(number):
            left = table.left(number)
            number = table.right(number)
            wider = []
            for words, lacking, outside in found:
                for many, first in self._first_ways(left, number, lacking, outside):
                    for opening in self._openings(left, many, first):
                        wider.append((words + opening, lacking - many, outside - first))
            found = wider
        return [words for words, _, _ in found]

    def _first_ways(self, left, right, names, bag):
        """The pairs of how many names, and which bag, the first of some openings has."""
        ways = []
        for many in range(1, names + 1):
            others = self._plains.handed[right][names - many]
            for first, told in self._plains.made[left][many].items():
                if bag - first in others:
                    ways.append((told[1] + others[bag - first][1], many, first))
        return [(many, first) for _, many, first in self._chosen(ways)]

    def _taken(self, number, stands, bodies):
        """The words of openings behind all takes of a kind; the names that each takes stand so often."""
        lefts = self._plains.table.lefts(number)
        found = bodies
        # The innermost take is the first to take names: it stands nearest.
        for left, many in reversed(list(zip(lefts, stands))):
            wider = []
            for words in found:
                wider.extend(_with_take(left, words, many))
            # Whichever names a take takes, the words are as many.
            found = wider[:1] if self._is_for_one else wider
        return found

    def _program_of(self, words):
        """The program that these words tell."""
        takes = [place for place, word in enumerate(words) if isinstance(word, tuple)]
        barred = {word: True for word in words if isinstance(word, str)}
        names = dict(zip(takes, new_names(len(takes), barred)))
        found = []
        for place, word in enumerate(words):
            if isinstance(word, str):
                found.append(word)
            elif isinstance(word, tuple):
                found.append((names[place], self._plains.table.kind(word[1])))
            else:
                found.append(names[place - word])
        return tuple(found)


def _with_take(number, words, many):
    """The words behind a take of a kind that takes so many of its names, in all ways."""
    places = [place for place, word in enumerate(words) if word == (TAKEN, number)]
    found = []
    for chosen in combinations(places, many):
        behind = [place + 1 if place in chosen else word for place, word in enumerate(words)]
        found.append(((TAKE, number),) + tuple(behind))
    return found
