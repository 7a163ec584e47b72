"""Houses: finite tables in which kinds are told by stands that have them."""

from usecounts.errors import BadHouse, NoKind
from usecounts.joinings import falls, is_joining, is_stands, lean_rows, mask_of, stands_of, turning
from usecounts.kinds import LAST_LETTER, is_kind_of_any_size, is_letter
from usecounts.kindtable import KindTable
from usecounts.lots import Lot
from usecounts.tasks import Task


class House:
    """Stands that are joined, 0 is nothing, and the letters that they have."""

    def __init__(self, lot, joining, letters):
        if not isinstance(lot, Lot):
            raise BadHouse("lot")
        if not is_joining(joining):
            raise BadHouse("joining")
        if not _is_letters(len(joining), letters):
            raise BadHouse("letters")
        if not _is_laid(lot, joining, letters):
            raise BadHouse("laid")
        self.lot = lot
        self.joining = joining
        self._letters = {letter: letters[letter] for letter in sorted(letters) if len(letters[letter]) > 0}

    @property
    def letters(self):
        """The dict from letters to the stands that have them, without letters that no stand has."""
        return {letter: self._letters[letter] for letter in self._letters}

    def __eq__(self, other):
        if not isinstance(other, House):
            return False
        return self.lot == other.lot and self.joining == other.joining and self._letters == other._letters


def _is_letters(many, thing):
    """Whether a thing is a dict from letters to ascending tuples of stands, of which there are so many."""
    if not isinstance(thing, dict):
        return False
    return all([is_letter(key) and _is_ascending_stands(many, thing[key]) for key in thing])


def _is_ascending_stands(many, thing):
    return is_stands(many, thing) and list(thing) == sorted(set(thing))


def _is_laid(lot, joining, letters):
    """Whether each stand has the letters of all from which the lot lets fall to it."""
    below = falls(joining, lot)
    for letter in letters:
        has = mask_of(letters[letter])
        if any([below[stand] & ~has for stand in letters[letter]]):
            return False
    return True


def _kind_masks(house, table):
    """The dict from the numbers of all kinds of a table to the masks of the stands that have them."""
    letters = house.letters
    found = {letter: mask_of(letters.get(letter, ())) for letter in range(LAST_LETTER + 1)}
    # Great kinds have many parts, but these few masks again and again.
    turnings = {}
    for number in table.pair_numbers():
        both = (found[table.left(number)], found[table.right(number)])
        if both not in turnings:
            turnings[both] = turning(house.joining, both[0], both[1])
        found[number] = turnings[both]
    return found


def stands_with(house, kind):
    """The ascending tuple of the stands that have a kind."""
    if not is_kind_of_any_size(kind):
        raise NoKind()
    table = KindTable()
    number = table.number(kind)
    return tuple(stands_of(_kind_masks(house, table)[number]))


def is_against(book, kind, thing):
    """Whether a thing is a House by which the kind can't be made with the book."""
    return is_against_task(Task(book, kind), thing)


def is_against_task(task, thing):
    """Whether a thing is a House in which nothing has the kinds of all tools, and has not the kind of the task."""
    if not isinstance(thing, House) or thing.lot != task.lot:
        return False
    masks = _kind_masks(thing, task.table)
    if not all([masks[number] & 1 for _, number in task.tools]):
        return False
    return masks[task.wanted] & 1 == 0


def lean(house):
    """The house in which stands are one that, joined with whatever stand, have the same letters."""
    joining, letters = lean_rows(house.joining, house.letters)
    return House(house.lot, joining, letters)
