"""A machine that runs programs, with a pile of what is handed and with frames that wait."""

from usecounts.errors import IsOver, NoFunctions, NotFlat, NothingDone, TooMany
from usecounts.judging import right
from usecounts.kinds import is_letter, lefts
from usecounts.shapes import USE, is_take

MOST_MOVES = 20000


def outcome(book, program):
    """The plain program of a program that makes a letter, without the words "@"."""
    return _led(Run(book, program))


def worth(book, program, functions):
    """What comes if each tool in the outcome is its function, called with the worths of what it is handed."""
    run = Run(book, program)
    if not _is_for_all_tools(book, functions):
        raise NoFunctions()
    rooms = {name: len(lefts(kind)) for name, kind in book.tools}
    waiting = []
    for tool in _led(run):
        waiting.append((tool, []))
        while len(waiting) > 1 and len(waiting[-1][1]) == rooms[waiting[-1][0]]:
            found = _called(functions, waiting.pop())
            waiting[-1][1].append(found)
    return _called(functions, waiting.pop())


def _called(functions, frame):
    """The worth of a tool with the worths of what it is handed."""
    action = functions[frame[0]]
    return action(tuple(frame[1]))


def _is_for_all_tools(book, thing):
    """Whether a thing is a dict with just the names of the tools as keys."""
    if not isinstance(thing, dict) or len(thing) != len(book.tools):
        return False
    return all([name in thing for name, _ in book.tools])


def _led(run):
    """The outcome to which a run comes."""
    while run.outcome() is None:
        if run.moves() == MOST_MOVES:
            raise TooMany(MOST_MOVES)
        run.move()
    return run.outcome()


def _flat_shape(book, program):
    """The shape of a program that is right and flat: NoProgram, Faulty, NotFlat."""
    found = right(book, (), program)
    if not is_flat(book.tools, found.kind()):
        raise NotFlat()
    return found.shape


def is_flat(tools, kind):
    """Whether a kind is a letter, and all lefts of the kinds of tools are."""
    return is_letter(kind) and all([is_letter(left) for _, told in tools for left in lefts(told)])


class Run:
    """The run of a program, move by move.

    Nothing of what a run holds is changed but its lists: surroundings, pile and
    frames are chains of tuples, None at their ends, so that a move back has only
    to take up elder ones. Surroundings are (place of a take, closure, those around),
    a pile is (closure, what lies below), a closure is (place, surroundings, token),
    frames are (tool, the pile of closures to come, the frames ahead).
    """

    def __init__(self, book, program):
        self._shape = _flat_shape(book, program)
        self._book = book
        self._place = 0
        self._around = None
        self._pile = None
        self._frames = None
        self._tokens = []
        # The tools in the order of their moves: so they stand in the outcome.
        self._tools = []
        self._past = []

    def move(self):
        """Do a move and return its word."""
        if self._place is None:
            raise IsOver()
        ahead = (self._place, self._around, self._pile, self._frames)
        word = self._shape.words[self._place]
        if word == USE:
            told, entered = ("use", self._move_use())
        elif is_take(word):
            told, entered = ("take", self._move_take())
        elif self._shape.takers[self._place] is not None:
            told, entered = ("name", self._move_name())
        else:
            told, entered = ("tool", self._move_tool(word))
        self._past.append((told, entered, ahead))
        return told

    # Each of these moves returns the token that it entered, or None.

    def _move_use(self):
        handed = (self._shape.ends[self._place + 1], self._around, len(self._tokens))
        self._tokens.append(0)
        self._pile = (handed, self._pile)
        self._place += 1
        return None

    def _move_take(self):
        handed, below = self._pile
        self._around = (self._place, handed, self._around)
        self._pile = below
        self._place += 1
        return None

    def _move_name(self):
        taker = self._shape.takers[self._place]
        around = self._around
        while around[0] != taker:
            around = around[2]
        return self._enter(around[1])

    def _move_tool(self, tool):
        self._tools.append(tool)
        self._frames = (tool, self._pile, self._frames)
        self._pile = None
        while self._frames is not None:
            last, coming, ahead = self._frames
            if coming is not None:
                self._frames = (last, coming[1], ahead)
                return self._enter(coming[0])
            self._frames = ahead
        self._place = None
        return None

    def _enter(self, closure):
        self._place, self._around, token = closure
        self._tokens[token] += 1
        return token

    def state(self):
        """The place that is next, the places on the pile, and the tools of the frames."""
        pile = []
        below = self._pile
        while below is not None:
            pile.append(below[0][0])
            below = below[1]
        frames = []
        ahead = self._frames
        while ahead is not None:
            frames.append(ahead[0])
            ahead = ahead[2]
        return (self._place, tuple(reversed(pile)), tuple(reversed(frames)))

    def moves(self):
        """How many moves were done and not taken back."""
        return len(self._past)

    def tokens(self):
        """The tuple of how often each token was entered."""
        return tuple(self._tokens)

    def outcome(self):
        """The outcome, or None as long as it is not there."""
        if self._place is not None:
            return None
        return tuple(self._tools)

    def back(self):
        """Take the last move back."""
        if not self._past:
            raise NothingDone()
        told, entered, ahead = self._past.pop()
        self._place, self._around, self._pile, self._frames = ahead
        if entered is not None:
            self._tokens[entered] -= 1
        if told == "use":
            self._tokens.pop()
        if told == "tool":
            self._tools.pop()

    def copy(self):
        """A run that goes on, and back, apart."""
        other = Run(self._book, self._shape.words)
        other._place = self._place
        other._around = self._around
        other._pile = self._pile
        other._frames = self._frames
        other._tokens = list(self._tokens)
        other._tools = list(self._tools)
        other._past = list(self._past)
        return other
