"""The errors of the package: one class for each kind of failure."""


class BitError(ValueError):
    """The base of all errors of the package."""


class NoWord(BitError):
    """A value is no word, or no list of words."""


class NoNet(BitError):
    """A value is no net, or outs are none."""


class NoTable(BitError):
    """A value is no table."""


class NoTelling(BitError):
    """A value is no telling."""


class NoSum(BitError):
    """A value is no sum, or no list of sums."""


class NoDemand(BitError):
    """A value is no demand, or no half demand where one is asked for."""


class NoPicks(BitError):
    """A value is no picks for a demand."""


class NoCount(BitError):
    """A value is no integer of the range that is asked for."""


class NoKind(BitError):
    """A value is none of the kinds, bits or answers that are asked for."""


class NoPlan(BitError):
    """A value is no plan."""


class NoCode(BitError):
    """A value is no code."""


class NoRow(BitError):
    """A value is no row of comparators."""


class NoMatch(BitError):
    """Values that belong together have unlike numbers of parts."""


class NoGate(BitError):
    """A value is no gate, or no gate for its place."""


class NoBoard(BitError):
    """A value is no board."""


class NoDeed(BitError):
    """A value is no deed."""


class NoDrop(BitError):
    """There is no gate to drop, or the last one is an out."""


class NoUndo(BitError):
    """No deed stands that could be undone."""


class NoThings(BitError):
    """A value is no list of deeds and lists, or one that is nested too deep."""


class NoLets(BitError):
    """A value is no tuple of lets."""


class NotThere(BitError):
    """A word was not told."""


class NoMachine(BitError):
    """A value is no machine."""


class TooGreat(BitError):
    """An answer or an object would be greater than the document lets it be."""
