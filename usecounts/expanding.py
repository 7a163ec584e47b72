"""Programs without steps, in which each part is given all takes and uses that its kind has room for."""

from usecounts.shapes import USE, ends_of_parts, is_take


class Expanding:
    """Writes the plain words of a loose program without steps, from the front.

    words: those so far.
    """

    def __init__(self, loose, named):
        self.words = []
        self._loose = loose
        self._ends = ends_of_parts(loose.words)
        # The numbers of the kinds of open names and of the numbers of takes.
        self._kinds = {name: named[name] for name in named}
        # Parts that are still to be written, the next one last: either the
        # place of one, or the number of a new take for a name alone, and its kind.
        self._waiting = []

    def write(self, kind, most):
        """Write the whole program, of the kind with this number: whether it has at most so many words."""
        self._waiting.append((0, None, kind))
        while self._waiting and len(self.words) <= most:
            place, number, wanted = self._waiting.pop()
            if place is None:
                self._write_name(number, [], wanted)
            else:
                self._write_part(place, wanted)
        return len(self.words) <= most

    def _write_part(self, place, wanted):
        words = self._loose.words
        while is_take(words[place]):
            self._write_take(words[place])
            wanted = self._loose.table.right(wanted)
            place += 1
        first = place
        while words[place] == USE:
            place += 1
        handed = []
        behind = place + 1
        for _ in range(place - first):
            handed.append((behind, None))
            behind = self._ends[behind]
        self._write_name(words[place], handed, wanted)

    def _write_name(self, word, handed, wanted):
        """Write a name that is handed some parts and then names for all lefts that the wanted kind has."""
        handed = handed + self._write_takes(self._loose.table.lefts(wanted))
        self.words.extend([USE] * len(handed))
        self.words.append(word)
        # The last part first, since the next one to be written waits at the end.
        kinds = self._loose.table.lefts(self._kinds[word])
        for item, left in reversed(list(zip(handed, kinds))):
            self._waiting.append((item[0], item[1], left))

    def _write_takes(self, lefts):
        """Write new takes of these kinds; their names as parts."""
        found = []
        for left in lefts:
            number = self._loose.new_number()
            self._write_take((number, left))
            found.append((None, number))
        return found

    def _write_take(self, word):
        self._kinds[word[0]] = word[1]
        self.words.append(word)
