"""Boards on which nets are built, and trials that leave them as they were."""

from halfbits.counts import is_count
from halfbits.errors import NoBoard, NoCount, NoDeed, NoDrop, NoGate, NoNet, NoThings, NoUndo, TooGreat
from halfbits.nets import are_outs, is_gate, told_at
from halfbits.sharp import first_dull
from halfbits.tables import table_of

MOST_INPUTS = 6
MOST_GATES = 60
MOST_DEEDS = 200
MOST_NESTED = 5


class Standing:
    """What is held, and the standing that the last deed was done on: None if no deed stands.

    Neither is ever changed, so that a standing can be kept and come back to.
    """

    def __init__(self, held, earlier):
        self.held = held
        self.earlier = earlier
        self.deeds = 0 if earlier is None else earlier.deeds + 1

    def behind(self, held, most):
        """Return the standing behind one deed more, of at most so many."""
        if self.deeds == most:
            raise TooGreat("no more deeds can stand")
        return Standing(held, self)

    def ahead(self):
        """Return the standing ahead of the last deed."""
        if self.earlier is None:
            raise NoUndo("no deed stands")
        return self.earlier


class Stretch:
    """The standing at the beginning of a stretch of deeds, and the stretch around it or None."""

    def __init__(self, begun, around):
        self.begun = begun
        self.around = around


class Board:
    """A net that is built gate by gate; what stands holds a pair of its gates and its outs."""

    def __init__(self, n):
        if not is_count(n, 1, MOST_INPUTS):
            raise NoCount("a board has from 1 to 6 inputs")
        self.n = n
        self.standing = Standing(((), (0,)), None)
        self.stretch = None

    def __len__(self):
        """Return the number of the gates."""
        return len(self.standing.held[0])

    def __enter__(self):
        """Begin a stretch of deeds."""
        self.stretch = Stretch(self.standing, self.stretch)
        return self

    def __exit__(self, kind, value, trace):
        # Without a return an error goes through.
        self.standing = self.stretch.begun
        self.stretch = self.stretch.around

    def add(self, gate):
        """Put a gate behind the others and return its number."""
        gates, outs = self.standing.held
        number = self.n + len(gates)
        check_gate(gate, number)
        if len(gates) == MOST_GATES:
            raise TooGreat("a board has at most 60 gates")
        self.stand(gates + (gate,), outs)
        return number

    def turn(self, number, gate):
        """Put another gate in the place of the one with a number."""
        gates, outs = self.standing.held
        if not is_count(number, self.n, self.n + len(gates) - 1):
            raise NoCount("no gate has this number")
        check_gate(gate, number)
        at = number - self.n
        self.stand(gates[:at] + (gate,) + gates[at + 1:], outs)

    def show(self, outs):
        """Set the outs."""
        gates = self.standing.held[0]
        if not are_outs(outs, self.n + len(gates)):
            raise NoNet("outs are a tuple of 1 to 32 numbers of inputs or gates")
        self.stand(gates, outs)

    def drop(self):
        """Take the last gate away."""
        gates, outs = self.standing.held
        if len(gates) == 0 or self.n + len(gates) - 1 in outs:
            raise NoDrop("there is no gate to drop, or it is one of the outs")
        self.stand(gates[:-1], outs)

    def stand(self, gates, outs):
        """Let gates and outs stand as the last deed leaves them."""
        self.standing = self.standing.behind((gates, outs), MOST_DEEDS)

    def undo(self):
        """Take the last deed back that stands."""
        self.standing = self.standing.ahead()

    def net(self):
        """Return the net."""
        gates, outs = self.standing.held
        return (self.n, gates, outs)

    def run(self, word):
        """Return what the net tells at a word."""
        return told_at(self.net(), word)

    def dull_word(self):
        """Return the first word at which the net does not tell all that its table surely tells, or None."""
        return first_dull(table_of(self.net()), self.net())


def check_gate(thing, number):
    """Raise NoGate for what is no gate that can have a number."""
    if not is_gate(thing, number):
        raise NoGate("a gate is a tuple of its kind and of numbers below its own")


def trial(board, things):
    """Return a list of what the deeds of a list tell, done in stretches; the board is then as it was."""
    if not isinstance(board, Board):
        raise NoBoard("deeds are tried on a board")
    if not isinstance(things, list) or not is_nested(things, MOST_NESTED):
        raise NoThings("deeds stand in a list, within which lists are nested at most five deep")
    return told_in_stretch(board, things)


def is_nested(thing, deep):
    """Tell whether a thing is no list, or lists nested at most so deep."""
    if not isinstance(thing, list):
        return True
    return deep > 0 and all([is_nested(part, deep - 1) for part in thing])


def told_in_stretch(board, things):
    """Do the deeds of a list in a stretch, and return the list of what they tell."""
    told = []
    with board:
        for thing in things:
            if isinstance(thing, list):
                told.append(told_in_stretch(board, thing))
            else:
                told.append(told_by(board, thing))
    return told


def told_by(board, deed):
    """Do a deed, and return what it tells: what the net tells for "run", else the number of gates behind it."""
    if isinstance(deed, tuple) and len(deed) == 2:
        kind, part = deed
        if kind == "run":
            return board.run(part)
        do_with(board, kind, part)
    elif deed == "drop":
        board.drop()
    elif deed == "undo":
        board.undo()
    else:
        raise NoDeed("a deed is a pair, or drop, or undo")
    return len(board)


def do_with(board, kind, part):
    """Do a deed that is a pair."""
    if kind == "add":
        board.add(part)
    elif kind == "show":
        board.show(part)
    elif kind == "turn" and isinstance(part, tuple) and len(part) == 2:
        board.turn(part[0], part[1])
    else:
        raise NoDeed("a pair adds, turns, shows or runs; what turns is a tuple of a number and a gate")
