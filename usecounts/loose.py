"""Programs whose taken names are numbers, so that steps need not tell names anew."""

from usecounts.kindtable import KindTable
from usecounts.names import new_names
from usecounts.shapes import Shape, end_of_part, is_take


class Loose:
    """A program that is led by steps.

    words: "@", open names, numbers for taken names, and pairs of such a number
    and the number of a kind for takes. Each take has another number.
    table: tells the numbers of kinds.
    """

    def __init__(self, shape, table):
        self.table = table
        words = []
        for place, word in enumerate(shape.words):
            if is_take(word):
                words.append((place, table.number(word[1])))
            elif shape.takers[place] is not None:
                words.append(shape.takers[place])
            else:
                words.append(word)
        self.words = words
        self._next = len(self.words)

    def new_number(self):
        """A number that no take has had."""
        self._next += 1
        return self._next - 1

    def size_behind(self, place):
        """How many words there are behind the step at a place."""
        middle = end_of_part(self.words, place + 1)
        handed = end_of_part(self.words, middle) - middle
        many = self.words[place + 2:middle].count(self.words[place + 1][0])
        return len(self.words) - 2 - handed + many * (handed - 1)

    def lead(self, place):
        """Do the step at a place."""
        words = self.words
        middle = end_of_part(words, place + 1)
        behind = end_of_part(words, middle)
        taken = words[place + 1][0]
        handed = words[middle:behind]
        led = words[:place]
        for word in words[place + 2:middle]:
            if word == taken:
                led.extend(handed)
                handed = self._anew(handed)
            else:
                led.append(word)
        self.words = led + words[behind:]

    def _anew(self, words):
        """The words of a part, each take in it with a new number."""
        numbers = {}
        found = []
        for word in words:
            if is_take(word):
                numbers[word[0]] = self.new_number()
                found.append((numbers[word[0]], word[1]))
            else:
                found.append(numbers.get(word, word))
        return found

    def put(self, named):
        """Put loose words, told by a dict, in the places of open names that are its keys."""
        found = []
        for word in self.words:
            if isinstance(word, str) and word in named:
                found.extend(self._anew(named[word]))
            else:
                found.append(word)
        self.words = found

    def told(self):
        """The program, standard."""
        numbers = [word[0] for word in self.words if is_take(word)]
        barred = {word: True for word in self.words if isinstance(word, str)}
        names = dict(zip(numbers, new_names(len(numbers), barred)))
        return tuple([self._told_word(word, names) for word in self.words])

    def _told_word(self, word, names):
        if is_take(word):
            return (names[word[0]], self.table.kind(word[1]))
        return names.get(word, word)


def loosened(program):
    """The program with numbers for taken names."""
    return Loose(Shape(program), KindTable())


def is_same_but_for_taken_names(program, other):
    """Whether two programs are equal but for taken names."""
    table = KindTable()
    return Loose(Shape(program), table).words == Loose(Shape(other), table).words
