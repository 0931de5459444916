"""Promises [1] and [15]: boards, deeds, stretches and trials."""

import random
import unittest

from halfbits.boards import Board, trial
from halfbits.errors import (
    BitError, NoBoard, NoCount, NoDeed, NoDrop, NoGate, NoMatch, NoNet, NoThings, NoUndo, NoWord, TooGreat,
)
from halfbits.nets import is_net, run
from halfbits.sharp import dull_word
from tests.support import NO_WORDS, BitCase, nested, odd_things, words_of

NO_NUMBERS = [True, False, None, "2", -1, 10 ** 12, (2,), [2], {}, ""]


def what(board):
    """All that can be seen of a board without a deed."""
    return (board.net(), len(board))


def deeds_of(board):
    """How many deeds stand on a board; none of them does behind this."""
    many = 0
    while True:
        try:
            board.undo()
        except NoUndo:
            return many
        many += 1


def full_board(n=1, many=60):
    """A board with many gates."""
    board = Board(n)
    for _ in range(many):
        board.add(("not", 0))
    return board


def worn_board(many=200):
    """A board on which many deeds stand."""
    board = Board(2)
    for turn in range(many):
        board.show((turn % 2,))
    return board


def made_deed(source, board):
    """A deed for a board, picked by a source of numbers, now and then one that is refused."""
    n, gates, outs = board.net()
    many = n + len(gates) + (source.random() < 0.1)
    gate = source.choice([
        ("0",), ("1",), ("not", source.randrange(many)), ("and", source.randrange(many), source.randrange(many)),
        ("or", source.randrange(many), source.randrange(many)), ["not", 0], ("nor", 0, 0),
    ])
    return source.choice([
        ("add", gate), ("add", gate), ("turn", (source.randrange(many + 1), gate)), "drop", "undo", "undo",
        ("show", tuple(source.randrange(many) for _ in range(source.randint(1, 3)))),
        ("run", "".join(source.choice("01?") for _ in range(n))),
    ])


def do(board, deed):
    """Do a deed by the board's own methods, and return what it tells."""
    if deed == "drop":
        board.drop()
    elif deed == "undo":
        board.undo()
    elif deed[0] == "run":
        return board.run(deed[1])
    elif deed[0] == "turn":
        board.turn(*deed[1])
    else:
        getattr(board, deed[0])(deed[1])
    return len(board)


class PlainBoard:
    """A board by the document's words: a row of nets, one behind each deed that stands."""

    def __init__(self, n):
        self.nets = [(n, (), (0,))]

    def next_net(self, deed):
        """The net behind a deed that is no undo, or None if it is refused."""
        n, gates, outs = self.nets[-1]
        if deed == "drop":
            if not gates or n + len(gates) - 1 in outs:
                return None
            return (n, gates[:-1], outs)
        kind, part = deed
        if kind == "add":
            found = (n, gates + (part,), outs)
        elif kind == "show":
            found = (n, gates, part)
        else:
            at = part[0] - n
            if not 0 <= at < len(gates):
                return None
            found = (n, gates[:at] + (part[1],) + gates[at + 1:], outs)
        return found if is_net(found) and len(found[1]) <= 60 and len(self.nets) <= 200 else None

    def do(self, deed):
        """Do a deed, and tell whether it was not refused."""
        if deed == "undo":
            if len(self.nets) == 1:
                return False
            self.nets.pop()
            return True
        net = self.next_net(deed)
        if net is not None:
            self.nets.append(net)
        return net is not None


class DeedsTest(BitCase):
    def test_a_new_board(self):
        for n in range(1, 7):
            board = Board(n)
            self.assertEqual(what(board), ((n, (), (0,)), 0))
            self.assertEqual(board.run("01?01?"[:n]), "0")
            self.assertIsNone(board.dull_word())
            self.assert_raises_just(NoUndo, board.undo)
            self.assert_raises_just(NoDrop, board.drop)
        self.assertEqual(Board(n=3).net(), (3, (), (0,)))

    def test_numbers_of_inputs(self):
        for n in [0, 7] + NO_NUMBERS:
            self.assert_raises_just(NoCount, Board, n)

    def test_worked_board(self):
        board = Board(2)
        self.assertEqual(board.add(("not", 0)), 2)
        self.assertIsNone(board.show((2,)))
        self.assertEqual(board.run("?1"), "?")
        self.assertIsNone(board.dull_word())
        self.assertEqual(len(board), 1)
        self.assertEqual(board.net(), (2, (("not", 0),), (2,)))

    def test_each_deed_and_undo(self):
        board = Board(2)
        seen = [what(board)]
        told = []
        for deed, parts in ((board.add, (("not", 0),)), (board.add, (("and", 1, 2),)), (board.show, ((3, 0, 3),)),
                            (board.turn, (2, ("1",))), (board.turn, (3, ("or", 2, 2))), (board.add, (("0",),)),
                            (board.drop, ()), (board.show, ((1,),)), (board.drop, ())):
            told.append(deed(*parts))
            seen.append(what(board))
        self.assertEqual(told, [2, 3, None, None, None, 4, None, None, None])
        self.assertEqual([net for net, _ in seen], [
            (2, (), (0,)),
            (2, (("not", 0),), (0,)),
            (2, (("not", 0), ("and", 1, 2)), (0,)),
            (2, (("not", 0), ("and", 1, 2)), (3, 0, 3)),
            (2, (("1",), ("and", 1, 2)), (3, 0, 3)),
            (2, (("1",), ("or", 2, 2)), (3, 0, 3)),
            (2, (("1",), ("or", 2, 2), ("0",)), (3, 0, 3)),
            (2, (("1",), ("or", 2, 2)), (3, 0, 3)),
            (2, (("1",), ("or", 2, 2)), (1,)),
            (2, (("1",),), (1,)),
        ])
        while len(seen) > 1:
            self.assertEqual(what(board), seen.pop())
            self.assertIsNone(board.undo())
        self.assertEqual(what(board), seen[0])
        self.assert_raises_just(NoUndo, board.undo)
        self.assertEqual(what(board), seen[0])

    def test_deeds_behind_undo(self):
        board = Board(1)
        board.add(("not", 0))
        board.add(("1",))
        board.undo()
        self.assertEqual(board.add(("and", 0, 1)), 2)
        self.assertEqual(board.net(), (1, (("not", 0), ("and", 0, 1)), (0,)))
        board.undo()
        self.assertEqual(board.net(), (1, (("not", 0),), (0,)))
        board.undo()
        self.assertEqual(board.add(("0",)), 1)
        self.assertEqual(deeds_of(board), 1)

    def test_arguments_by_their_names(self):
        board = Board(n=1)
        self.assertEqual(board.add(gate=("not", 0)), 1)
        board.turn(gate=("1",), number=1)
        board.show(outs=(1,))
        self.assertEqual(board.run(word="?"), "1")

    def test_what_the_net_tells(self):
        board = Board(2)
        for gate in (("not", 0), ("or", 0, 2), ("and", 1, 3)):
            board.add(gate)
        board.show((4, 3))
        for word in words_of(2):
            self.assertEqual(board.run(word), run(board.net(), word))
        self.assertEqual(board.dull_word(), dull_word(board.net()))
        self.assertEqual(board.dull_word(), "?0")
        board.turn(3, ("1",))
        self.assertIsNone(board.dull_word())

    def test_words_that_do_not_fit(self):
        board = Board(2)
        for word in NO_WORDS + odd_things():
            self.assert_raises_just(NoWord, board.run, word)
        for word in ("0", "000", "?" * 32):
            self.assert_raises_just(NoMatch, board.run, word)

    def test_made_deeds(self):
        source = random.Random(130)
        for _ in range(60):
            n = source.randint(1, 3)
            board, plain = Board(n), PlainBoard(n)
            for _ in range(60):
                deed = made_deed(source, board)
                if deed[0] != "run":
                    try:
                        do(board, deed)
                        done = True
                    except BitError:
                        done = False
                    self.assertIs(plain.do(deed), done, (deed, plain.nets[-1]))
                self.assertEqual(board.net(), plain.nets[-1])
                self.assertEqual(len(board), len(plain.nets[-1][1]))
            self.assertEqual(deeds_of(board), len(plain.nets) - 1)
            self.assertEqual(board.net(), plain.nets[0])


class RefusedDeedsTest(BitCase):
    def assert_refused(self, error, board, method, *arguments):
        before = what(board)
        self.assert_raises_just(error, getattr(board, method), *arguments)
        self.assertEqual(what(board), before)

    def test_gates_that_are_none(self):
        wrong = [
            (), ("not",), ("not", 0, 0), ("and", 0), ("and", 0, 0, 0), ("0", 0), ("1", 0), ("nor", 0, 0), ("xor", 0, 0),
            ["not", 0], "0", "1", "not", None, True, 0, 1, {}, ("not", True), ("and", False, 0), ("not", "0"),
            ("not", None), ("not", -1), ("or", 0, -1), (None,), (0,), ("not", (0,)), ("not", [0]), (("not", 0),), ("", 0),
        ]
        board = Board(1)
        board.add(("not", 0))
        for gate in wrong + [thing for thing in odd_things() if thing != ("0",)]:
            self.assert_refused(NoGate, board, "add", gate)
            self.assert_refused(NoGate, board, "turn", 1, gate)
        self.assertEqual(deeds_of(board), 1)

    def test_numbers_that_are_not_below(self):
        board = Board(2)
        board.add(("0",))
        board.add(("1",))
        for number in (4, 5, 10 ** 12, -1):
            for gate in (("not", number), ("and", 0, number), ("or", number, 0)):
                self.assert_refused(NoGate, board, "add", gate)
        for number in (2, 3, 4, -1):
            for gate in (("not", number), ("and", 0, number), ("or", number, 0)):
                self.assert_refused(NoGate, board, "turn", 2, gate)
        self.assert_refused(NoGate, board, "turn", 3, ("not", 3))
        board.turn(3, ("not", 2))
        board.turn(2, ("not", 1))
        self.assertEqual(board.add(("or", 3, 2)), 4)
        self.assertEqual(deeds_of(board), 5)

    def test_numbers_of_no_gate(self):
        board = Board(2)
        for number in (0, 1, 2):
            self.assert_refused(NoCount, board, "turn", number, ("0",))
        board.add(("0",))
        board.add(("1",))
        for number in [0, 1, 4, 5, -2] + NO_NUMBERS:
            for gate in (("0",), None, ("not", 5)):
                if type(number) is not int or number not in (2, 3):
                    self.assert_refused(NoCount, board, "turn", number, gate)
        one = Board(1)
        one.add(("0",))
        for number in (True, 0, 2):
            self.assert_refused(NoCount, one, "turn", number, ("1",))
        one.turn(1, ("1",))
        self.assertEqual(one.net(), (1, (("1",),), (0,)))

    def test_outs_that_are_none(self):
        board = Board(2)
        board.add(("0",))
        wrong = [(), (3,), (0, 3), (-1,), (True,), (0, False), ("0",), [0], [0, 1], None, 0, "0", {}, ((0,),), (0,) * 33,
                 (None,), (0, None), range(1)]
        for outs in wrong + [thing for thing in odd_things() if thing != (0,)]:
            self.assert_refused(NoNet, board, "show", outs)
        board.show((0, 2, 1, 2) * 8)
        self.assertEqual(board.run("1?"), "10?0" * 8)
        self.assertEqual(deeds_of(board), 2)

    def test_gates_that_cannot_be_dropped(self):
        board = Board(2)
        self.assert_refused(NoDrop, board, "drop")
        board.add(("0",))
        board.add(("1",))
        for outs in ((3,), (0, 3), (3, 1, 3)):
            board.show(outs)
            self.assert_refused(NoDrop, board, "drop")
        board.show((2, 0))
        board.drop()
        self.assert_refused(NoDrop, board, "drop")
        board.show((1,))
        board.drop()
        self.assert_refused(NoDrop, board, "drop")
        self.assertEqual(board.net(), (2, (), (1,)))

    def test_undo_behind_a_refused_deed(self):
        board = Board(2)
        board.add(("not", 1))
        board.show((2,))
        for method, arguments in (("add", (("not", 9),)), ("turn", (9, ("0",))), ("show", ((9,),)), ("drop", ()),
                                  ("run", ("x",)), ("turn", (2, ("not", 2)))):
            with self.assertRaises(BitError):
                getattr(board, method)(*arguments)
        board.undo()
        self.assertEqual(board.net(), (2, (("not", 1),), (0,)))
        board.undo()
        self.assertEqual(board.net(), (2, (), (0,)))
        self.assert_refused(NoUndo, board, "undo")

    def test_another_board_stays_as_it_is(self):
        board, other = Board(2), Board(2)
        board.add(("not", 0))
        before = what(other)
        board.show((2,))
        self.assertEqual(what(other), before)
        other.add(("1",))
        with other:
            other.add(("0",))
            board.add(("0",))
        self.assertEqual(board.net(), (2, (("not", 0), ("0",)), (2,)))
        self.assertEqual(other.net(), (2, (("1",),), (0,)))
        trial(other, [("show", (1,))])
        self.assertEqual(board.net()[2], (2,))


class GreatestBoardTest(BitCase):
    def test_sixty_gates(self):
        board = full_board(1, 59)
        self.assertEqual(board.add(("or", 0, 59)), 60)
        self.assertEqual(len(board), 60)
        before = what(board)
        for gate in (("not", 0), ("not", 60), ("0",)):
            self.assert_raises_just(TooGreat, board.add, gate)
        for gate in (("not", 61), None, ["0"], ("not", True)):
            self.assert_raises_just(NoGate, board.add, gate)
        self.assertEqual(what(board), before)
        board.turn(60, ("and", 59, 58))
        board.show((60,))
        self.assertEqual(board.run("?"), "?")
        self.assertEqual(board.dull_word(), None)
        board.undo()
        board.drop()
        self.assertEqual(board.add(("1",)), 60)
        self.assert_raises_just(TooGreat, board.add, ("1",))

    def test_sixty_gates_of_six_inputs(self):
        source = random.Random(131)
        board = Board(6)
        for number in range(6, 66):
            board.add((source.choice(("and", "or")), source.randrange(number), source.randrange(number)))
        board.show(tuple(range(34, 66)))
        self.assertEqual(board.dull_word(), dull_word(board.net()))
        self.assertEqual(board.run("??????"), run(board.net(), "??????"))

    def test_two_hundred_deeds(self):
        board = worn_board(199)
        self.assertEqual(board.add(("0",)), 2)
        before = what(board)
        for method, arguments in (("add", (("0",),)), ("turn", (2, ("1",))), ("show", ((0,),)), ("drop", ())):
            self.assert_raises_just(TooGreat, getattr(board, method), *arguments)
        for error, method, arguments in ((NoGate, "add", (("not", 3),)), (NoCount, "turn", (1, ("0",))),
                                         (NoGate, "turn", (2, ("not", 2))), (NoNet, "show", ((3,),))):
            self.assert_raises_just(error, getattr(board, method), *arguments)
        self.assertEqual(what(board), before)
        self.assertEqual(board.run("01"), "0")
        board.undo()
        board.show((0,))
        self.assert_raises_just(TooGreat, board.show, (0,))
        self.assert_raises_just(NoDrop, board.drop)
        self.assertEqual(deeds_of(board), 200)
        self.assertEqual(board.net(), (2, (), (0,)))

    def test_undo_makes_room(self):
        board = worn_board()
        for _ in range(200):
            board.undo()
        self.assert_raises_just(NoUndo, board.undo)
        for _ in range(200):
            board.show((1,))
        self.assert_raises_just(TooGreat, board.show, (1,))


class StretchTest(BitCase):
    def test_the_object_itself(self):
        board = Board(1)
        with board as same:
            self.assertIs(same, board)
            with board as again:
                self.assertIs(again, board)

    def test_the_end_of_a_stretch(self):
        board = Board(1)
        board.add(("not", 0))
        board.show((1,))
        before = what(board)
        with board:
            board.add(("0",))
            board.show((2, 0))
            board.turn(1, ("1",))
            self.assertEqual(board.net(), (1, (("1",), ("0",)), (2, 0)))
        self.assertEqual(what(board), before)
        self.assertEqual(deeds_of(board), 2)

    def test_undo_behind_the_beginning(self):
        board = Board(1)
        board.add(("not", 0))
        board.show((1,))
        before = what(board)
        with board:
            board.add(("1",))
            for _ in range(3):
                board.undo()
            self.assertEqual(board.net(), (1, (), (0,)))
            self.assert_raises_just(NoUndo, board.undo)
            board.add(("0",))
        self.assertEqual(what(board), before)
        board.undo()
        self.assertEqual(board.net(), (1, (("not", 0),), (0,)))
        self.assertEqual(deeds_of(board), 1)

    def test_errors_go_through(self):
        board = Board(1)
        board.add(("not", 0))
        before = what(board)
        for raised in (NoGate("x"), ZeroDivisionError("y"), KeyError("z")):
            with self.assertRaises(type(raised)) as caught:
                with board:
                    board.show((1,))
                    board.undo()
                    board.undo()
                    raise raised
            self.assertIs(caught.exception, raised)
            self.assertEqual(what(board), before)
        with self.assertRaises(NoNet):
            with board:
                board.add(("1",))
                board.show((9,))
        self.assertEqual(what(board), before)
        self.assertEqual(deeds_of(board), 1)

    def test_stretches_within_stretches(self):
        board = Board(1)
        board.add(("not", 0))
        with board:
            board.add(("1",))
            with board:
                board.undo()
                board.undo()
                with board:
                    board.add(("0",))
                self.assertEqual(board.net(), (1, (), (0,)))
            self.assertEqual(board.net(), (1, (("not", 0), ("1",)), (0,)))
            with self.assertRaises(NoDrop), board:
                board.show((2,))
                with board:
                    board.show((1,))
                    board.drop()
                board.drop()
            self.assertEqual(board.net(), (1, (("not", 0), ("1",)), (0,)))
            board.undo()
            self.assertEqual(board.net(), (1, (("not", 0),), (0,)))
        self.assertEqual(board.net(), (1, (("not", 0),), (0,)))
        self.assertEqual(deeds_of(board), 1)

    def test_stretches_one_after_the_other(self):
        board = Board(1)
        for turn in range(5):
            with board:
                for _ in range(turn):
                    board.add(("1",))
                self.assertEqual(len(board), turn)
            self.assertEqual(len(board), 0)
            self.assert_raises_just(NoUndo, board.undo)

    def test_a_full_board(self):
        board = worn_board()
        with board:
            self.assert_raises_just(TooGreat, board.show, (0,))
            board.undo()
            board.show((0,))
            self.assert_raises_just(TooGreat, board.show, (0,))
        self.assertEqual(deeds_of(board), 200)


class TrialTest(BitCase):
    def test_worked_trial(self):
        things = [("add", ("not", 0)), [("show", (1,)), ("run", "0")], ("run", "0")]
        self.assertEqual(trial(Board(1), things), [1, [1, "1"], "0"])
        self.assertEqual(trial(things=things, board=Board(1)), [1, [1, "1"], "0"])

    def test_each_kind_of_deed(self):
        board = Board(2)
        board.add(("1",))
        before = what(board)
        things = [
            ("run", "01"), ("add", ("and", 0, 1)), ("turn", (2, ("0",))), ("show", (3, 2)), ("run", "11"), "undo",
            ("run", "11"), "undo", ("add", ("not", 2)), "drop", "drop", "undo", "undo", "undo", "undo", "undo", ("run", "?0"),
            ("add", ("0",)),
        ]
        self.assertEqual(trial(board, things), ["0", 2, 2, 2, "10", 2, "1", 2, 3, 2, 1, 2, 3, 2, 1, 0, "?", 1])
        self.assertEqual(what(board), before)
        self.assertEqual(deeds_of(board), 1)

    def test_lists_in_lists(self):
        board = Board(1)
        show, run_it = ("show", (1,)), ("run", "?")
        things = [("add", ("1",)), [show, run_it, [("turn", (1, ("0",))), run_it], run_it, []], run_it, [], [[]]]
        self.assertEqual(trial(board, things), [1, [1, "1", [1, "0"], "1", []], "?", [], [[]]])
        self.assertEqual(trial(board, []), [])
        self.assertEqual(what(board), ((1, (), (0,)), 0))

    def test_five_deep_and_six_deep(self):
        board = Board(1)
        for deep in range(1, 12):
            for inmost in ([], [("run", "1")], [("add", ("not", 0)), ("run", "0")]):
                things = inmost
                for _ in range(deep - 1):
                    things = [things]
                if deep <= 5:
                    told = trial(board, things)
                    for _ in range(deep - 1):
                        told = told[0]
                    self.assertEqual(told, {0: [], 1: ["1"], 2: [1, "0"]}[len(inmost)])
                else:
                    self.assert_raises_just(NoThings, trial, board, things)
        # The form is looked at ahead of every deed, the last one too.
        for deed in (("add", None), "none", "drop", ("run", "x"), None):
            self.assert_raises_just(NoThings, trial, board, [deed, [[[[[]]]]]])
            self.assert_raises_just(NoThings, trial, board, [[deed], ("run", "0"), [[[[[deed]]]]]])

    def test_things_that_are_no_list(self):
        board = Board(1)
        for things in [(), (("run", "0"),), ("run", "0"), "undo", None, True, 1, {}, {"run": "0"}]:
            self.assert_raises_just(NoThings, trial, board, things)
        for things in odd_things():
            if not isinstance(things, list):
                self.assert_raises_just(NoThings, trial, board, things)

    def test_what_is_no_board(self):
        for thing in [None, True, 1, (1, (), (0,)), "board", [], {}, Board(1).net()] + odd_things():
            for things in ([], None, [("run", "0")], [[[[[[]]]]]]):
                self.assert_raises_just(NoBoard, trial, thing, things)

    def test_what_is_no_deed(self):
        wrong = [
            "add", "run", "Undo", "", "dropped", None, True, 0, (), ("undo",), ("drop",), ("drop", 1), ("undo", None),
            ("add",), ("add", ("0",), 1), ("run",), ("show",), ("turn",), ("turn", 5), ("turn", (1, 2, 3)), ("turn", (1,)),
            ("turn", [1, ("0",)]), ("turn", None), ("turn", 1, ("0",)), ("turn", "1("), ("net", 0), ("none", ("0",)),
            (None, None), (("add",), ("0",)), (["add"], ("0",)), {"add": ("0",)}, {}, "ad", ("Add", ("0",)), (True, 1),
            ("turned", (1, ("0",))), ("", (1, ("0",))), (None, (1, ("0",))),
        ]
        board = Board(1)
        for thing in wrong + [thing for thing in odd_things() if not isinstance(thing, list)]:
            self.assert_raises_just(NoDeed, trial, board, [thing])
            self.assert_raises_just(NoDeed, trial, board, [("add", ("0",)), [("run", "0"), [thing]], "none"])
        self.assertEqual(what(board), ((1, (), (0,)), 0))

    def test_errors_in_their_turn(self):
        board = Board(1)
        board.add(("1",))
        for error, deed in ((NoGate, ("add", ("not", 9))), (NoGate, ("add", None)), (NoCount, ("turn", (0, ("0",)))),
                            (NoGate, ("turn", (1, ("not", 1)))), (NoNet, ("show", (9,))), (NoNet, ("show", [0])),
                            (NoWord, ("run", "x")), (NoMatch, ("run", "00")), (NoWord, ("run", None)),
                            (NoCount, ("turn", (None, None))), (NoDeed, "none"), (NoDeed, ("turn", 5))):
            before = what(board)
            for things in ([deed], [[[deed]]], [("add", ("0",)), deed, "none"], [[("show", (1,))], deed, None],
                           [("run", "0"), [("turn", (1, ("0",)))], [[], deed], ("run", None)]):
                self.assert_raises_just(error, trial, board, things)
                self.assertEqual(what(board), before)
            self.assert_raises_just(NoUndo, trial, board, ["undo", "undo", deed])
            self.assert_raises_just(NoDrop, trial, board, ["drop", "drop", deed])
            self.assert_raises_just(NoDrop, trial, board, [("show", (1,)), "drop", deed])
            self.assertEqual(what(board), before)
        self.assertEqual(deeds_of(board), 1)

    def test_a_worn_board(self):
        board = worn_board()
        before = what(board)
        self.assertEqual(trial(board, [("run", "01"), ["undo", ("add", ("1",)), ("run", "01")]]), ["1", [0, 1, "0"]])
        for things in ([("show", (0,))], [["undo", ("show", (0,)), ("add", ("1",))]], [("run", "00"), ("add", ("1",))]):
            self.assert_raises_just(TooGreat, trial, board, things)
            self.assertEqual(what(board), before)
        self.assertEqual(trial(board, ["undo"] * 200), [0] * 200)
        self.assert_raises_just(NoUndo, trial, board, ["undo"] * 201)
        self.assertEqual(what(board), before)
        self.assertEqual(deeds_of(board), 200)

    def test_a_full_board(self):
        board = full_board()
        self.assertEqual(trial(board, ["drop", ("add", ("1",))]), [59, 60])
        self.assert_raises_just(TooGreat, trial, board, ["drop", ("add", ("1",)), ("add", ("1",))])
        self.assertEqual(len(board), 60)

    def test_told_lists_are_new_and_things_stay(self):
        inner = [("run", "?")]
        things = [inner, inner, [inner]]
        board = Board(1)
        told = trial(board, things)
        self.assertEqual(told, [["?"], ["?"], [["?"]]])
        self.assertEqual(things, [[("run", "?")], [("run", "?")], [[("run", "?")]]])
        self.assertIsNot(told[0], told[1])
        self.assertIsNot(told[0], told[2][0])
        self.assertIsNot(told[0], inner)
        self.assertIsNot(trial(board, things), told)
        self.assertIsNot(trial(board, []), trial(board, []))

    def test_made_trials(self):
        source = random.Random(132)
        found = {True: 0, False: 0}
        for _ in range(200):
            board = Board(source.randint(1, 3))
            for _ in range(source.randint(0, 6)):
                try:
                    do(board, made_deed(source, board))
                except BitError:
                    pass
            before = what(board)
            things = self.made_things(source, board, 1)
            try:
                told, error = self.told_by_stretches(board, things), None
            except BitError as raised:
                told, error = None, type(raised)
            found[error is None] += 1
            if error is None:
                self.assertEqual(trial(board, things), told)
            else:
                self.assert_raises_just(error, trial, board, things)
            self.assertEqual(what(board), before)
        self.assertGreater(min(found.values()), 15)

    def made_things(self, source, board, deep):
        things = []
        with board:
            for _ in range(source.randint(0, 4)):
                if deep < 5 and source.random() < 0.3:
                    things.append(self.made_things(source, board, deep + 1))
                else:
                    things.append(made_deed(source, board))
                    try:
                        do(board, things[-1])
                    except BitError:
                        if source.random() < 0.8:
                            things.pop()
        return things

    def told_by_stretches(self, board, things):
        with board:
            return [
                self.told_by_stretches(board, thing) if isinstance(thing, list) else do(board, thing) for thing in things
            ]


if __name__ == "__main__":
    unittest.main()
