"""For each function and method of the interface an ordinary call, and for each argument a wrong value."""

from halfbits.benches import Bench
from halfbits.boards import Board, trial
from halfbits.codes import conversion, losses, read_as, reflected
from halfbits.demands import first_missed, is_demand, picked_net, picks_of
from halfbits.errors import (
    NoBoard, NoCode, NoCount, NoDemand, NoGate, NoKind, NoLets, NoMachine, NoNet, NoPicks, NoPlan, NoRow, NoSum, NoTable,
    NoTelling, NoThings, NoWord,
)
from halfbits.machines import first_unlike, first_wrong, is_machine, outcomes, unrolled
from halfbits.nets import is_net, run
from halfbits.refusals import refusal_of, shows_refusal
from halfbits.rounds import least_rounds, outlines_of, plan_of, shows_outlines
from halfbits.sharp import dull_word, is_sharp_sum, primes, sharp_net, sum_net, surely
from halfbits.sorting import first_unsorted, order_net, place_of, sorted_by, word_at
from halfbits.stores import first_failing, reads, rows_of
from halfbits.tables import first_duller, first_parting, is_table, is_telling, table_of, telling_of
from halfbits.tellings import net_of, why_not
from halfbits.words import is_within, is_word, joined, met, settlings

NET = (2, (("not", 0), ("and", 1, 2), ("or", 0, 1), ("1",)), (3, 1))
OTHER_NET = (2, (("0",),), (0, 1))
TABLE = (2, ("00", "01", "10", "11"))
TELLING = (1, ("01", "11", "?1"))
DEMAND = (1, 2, (("0", ("00",)), ("1", ("11",)), ("?", ("0?", "?1"))))
CLOSED = (1, 1, (("0", ("0",)), ("1", ("1",)), ("?", ("0", "1"))))
OUTLINES = ((("0", "00"), ("1", "11")), (("00", "01", "11"),))
REFUSAL = ((), ("0", (((("1", "1", 2),), None),)))
PLAN = (("low",), 2, (2, (), (0, 1)))
CODE = ("00", "01", "10", "11")
ROW = ((0, 1), (1, 2), (0, 1))
MACHINE = (("low",), ("plain",), (2, (("not", 0),), (2, 0, 1)))
OTHER_MACHINE = (("high",), (), (1, (("1",),), (0, 1)))
THINGS = [("add", ("not", 0)), [("show", (1,)), ("run", "0")], ("turn", (1, ("and", 0, 0))), "undo", "drop"]


def board():
    """A new board with two gates."""
    made = Board(1)
    made.add(("not", 0))
    made.add(("or", 0, 1))
    return made


def bench():
    """A new bench with three wishes."""
    made = Bench(1, 2)
    for word, lets in DEMAND[2]:
        made.tell(word, lets)
    return made


def new_net(n):
    """The net of a new board."""
    return Board(n).net()


def new_length(n, m):
    """The length of a new bench."""
    return len(Bench(n, m))


def deed_of(make, name):
    """The function that does a deed with a new object and returns what it tells and what can be seen of it."""
    def do(**arguments):
        made = make()
        told = getattr(made, name)(**arguments)
        return [told, len(made), made.net() if isinstance(made, Board) else made.demand()]
    return do


# The function, its arguments by their names in their order, and for some of them a wrong value and its error.
CALLS = {
    "is_word": (is_word, {"thing": "01?"}, {}),
    "settlings": (settlings, {"word": "0?1"}, {"word": ("x", NoWord)}),
    "is_within": (is_within, {"word": "01", "other": "0?"}, {"word": ("", NoWord), "other": (None, NoWord)}),
    "joined": (joined, {"words": ["01", "00"]}, {"words": (("01",), NoWord)}),
    "met": (met, {"word": "0?", "other": "?1"}, {"word": (["0"], NoWord), "other": (0, NoWord)}),
    "is_net": (is_net, {"thing": NET}, {}),
    "run": (run, {"net": NET, "word": "?1"}, {"net": (list(NET), NoNet), "word": ("2", NoWord)}),
    "is_table": (is_table, {"thing": TABLE}, {}),
    "is_telling": (is_telling, {"thing": TELLING}, {}),
    "table_of": (table_of, {"net": NET}, {"net": ((), NoNet)}),
    "telling_of": (telling_of, {"net": NET}, {"net": (None, NoNet)}),
    "first_parting": (
        first_parting, {"net": NET, "other": OTHER_NET}, {"net": ((0, (), (0,)), NoNet), "other": ("net", NoNet)},
    ),
    "first_duller": (first_duller, {"net": NET, "other": OTHER_NET}, {"net": ([], NoNet), "other": ({}, NoNet)}),
    "surely": (surely, {"table": TABLE, "word": "?1"}, {"table": (TABLE[::-1], NoTable), "word": (1, NoWord)}),
    "dull_word": (dull_word, {"net": NET}, {"net": (1, NoNet)}),
    "primes": (
        primes, {"table": TABLE, "out": 1, "bit": "1"},
        {"table": (None, NoTable), "out": (2, NoCount), "bit": ("?", NoKind)},
    ),
    "sum_net": (sum_net, {"n": 1, "sums": [["0", "?"], []]}, {"n": (7, NoCount), "sums": ([], NoSum)}),
    "is_sharp_sum": (
        is_sharp_sum, {"table": TABLE, "out": 1, "words": ["?1"]},
        {"table": ("", NoTable), "out": (-1, NoCount), "words": (["x"], NoSum)},
    ),
    "sharp_net": (sharp_net, {"table": TABLE}, {"table": (TELLING, NoTable)}),
    "why_not": (why_not, {"telling": TELLING}, {"telling": (TABLE, NoTelling)}),
    "net_of": (net_of, {"telling": TELLING}, {"telling": (["0"], NoTelling)}),
    "is_demand": (is_demand, {"thing": DEMAND}, {}),
    "first_missed": (
        first_missed, {"demand": DEMAND, "net": (1, (("not", 0),), (0, 1))},
        {"demand": (DEMAND[:2], NoDemand), "net": (DEMAND, NoNet)},
    ),
    "picks_of": (picks_of, {"demand": DEMAND}, {"demand": (0, NoDemand)}),
    "picked_net": (
        picked_net, {"demand": (1, 1, (("0", ("0", "1")), ("?", ("?",)))), "picks": (1, 0)},
        {"demand": (None, NoDemand), "picks": ((2, 0), NoPicks)},
    ),
    "reads": (
        reads, {"kind": "low", "bit": "?", "r": 1}, {"kind": ("none", NoKind), "bit": ("00", NoKind), "r": (9, NoCount)},
    ),
    "rows_of": (
        rows_of, {"kinds": ("low", "high"), "r": 1, "word": "?0"},
        {"kinds": ((), NoKind), "r": (0, NoCount), "word": ("x", NoWord)},
    ),
    "first_failing": (
        first_failing, {"demand": DEMAND, "plan": PLAN}, {"demand": ((4, 1, ()), NoDemand), "plan": (PLAN[:2], NoPlan)},
    ),
    "shows_outlines": (
        shows_outlines, {"demand": DEMAND, "r": 2, "thing": OUTLINES},
        {"demand": ((2, 1, (("??", ("0",)),)), NoDemand), "r": (0, NoCount)},
    ),
    "outlines_of": (outlines_of, {"demand": DEMAND, "r": 2}, {"demand": ([], NoDemand), "r": ("1", NoCount)}),
    "least_rounds": (least_rounds, {"demand": DEMAND}, {"demand": ((), NoDemand)}),
    "plan_of": (plan_of, {"demand": DEMAND, "r": 3}, {"demand": (DEMAND[1:], NoDemand), "r": (9, NoCount)}),
    "refusal_of": (refusal_of, {"demand": DEMAND, "r": 1}, {"demand": (None, NoDemand), "r": (None, NoCount)}),
    "shows_refusal": (
        shows_refusal, {"demand": CLOSED, "r": 1, "thing": REFUSAL}, {"demand": ("", NoDemand), "r": (-1, NoCount)},
    ),
    "losses": (losses, {"code": CODE, "is_ring": True}, {"code": (("0",), NoCode), "is_ring": (1, NoKind)}),
    "read_as": (read_as, {"code": CODE, "word": "?1"}, {"code": (list(CODE), NoCode), "word": (None, NoWord)}),
    "reflected": (reflected, {"bits": 1}, {"bits": (9, NoCount)}),
    "conversion": (
        conversion, {"code": CODE, "other": ("00", "01", "11", "10")}, {"code": (("0", "0"), NoCode), "other": ((), NoCode)},
    ),
    "place_of": (place_of, {"word": "?1"}, {"word": ("0" * 17, NoWord)}),
    "word_at": (word_at, {"bits": 1, "place": 1}, {"bits": (0, NoCount), "place": (-1, NoCount)}),
    "order_net": (order_net, {"bits": 1}, {"bits": (17, NoCount)}),
    "sorted_by": (
        sorted_by, {"row": ROW, "words": ["10", "?1", "00"]}, {"row": (((1, 0),), NoRow), "words": (["0"], NoWord)},
    ),
    "first_unsorted": (first_unsorted, {"k": 3, "row": ROW}, {"k": (9, NoCount), "row": (None, NoRow)}),
    "Board": (new_net, {"n": 1}, {"n": (7, NoCount)}),
    "Board.add": (deed_of(board, "add"), {"gate": ("and", 0, 1)}, {"gate": (("and", 0), NoGate)}),
    "Board.turn": (
        deed_of(board, "turn"), {"number": 1, "gate": ("or", 0, 0)}, {"number": (0, NoCount), "gate": (("not", 2), NoGate)},
    ),
    "Board.show": (deed_of(board, "show"), {"outs": (0, 1)}, {"outs": ((3,), NoNet)}),
    "Board.drop": (deed_of(board, "drop"), {}, {}),
    "Board.undo": (deed_of(board, "undo"), {}, {}),
    "Board.net": (deed_of(board, "net"), {}, {}),
    "Board.run": (deed_of(board, "run"), {"word": "?"}, {"word": ("", NoWord)}),
    "Board.dull_word": (deed_of(board, "dull_word"), {}, {}),
    "trial": (trial, {"board": board(), "things": THINGS}, {"board": (None, NoBoard), "things": ((), NoThings)}),
    "Bench": (new_length, {"n": 1, "m": 3}, {"n": (4, NoCount), "m": (0, NoCount)}),
    "Bench.tell": (
        deed_of(bench, "tell"), {"word": "0", "lets": ("01", "1?")}, {"word": ("00", NoWord), "lets": (("0",), NoLets)},
    ),
    "Bench.withdraw": (deed_of(bench, "withdraw"), {"word": "0"}, {"word": ("x", NoWord)}),
    "Bench.undo": (deed_of(bench, "undo"), {}, {}),
    "Bench.demand": (deed_of(bench, "demand"), {}, {}),
    "Bench.ask": (deed_of(bench, "ask"), {"r": 1}, {"r": (9, NoCount)}),
    "Bench.least": (deed_of(bench, "least"), {}, {}),
    "is_machine": (is_machine, {"thing": MACHINE}, {}),
    "outcomes": (
        outcomes, {"machine": MACHINE, "word": "?", "r": 1},
        {"machine": (MACHINE[::-1], NoMachine), "word": ("??x", NoWord), "r": (9, NoCount)},
    ),
    "first_wrong": (
        first_wrong, {"demand": DEMAND, "machine": MACHINE, "r": 1},
        {"demand": (1, NoDemand), "machine": ((), NoMachine), "r": (0, NoCount)},
    ),
    "first_unlike": (
        first_unlike, {"machine": MACHINE, "other": OTHER_MACHINE, "r": 2},
        {"machine": (None, NoMachine), "other": (PLAN, NoMachine), "r": ([], NoCount)},
    ),
    "unrolled": (unrolled, {"machine": MACHINE, "r": 2}, {"machine": ({}, NoMachine), "r": ((1,), NoCount)}),
}
