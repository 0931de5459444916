"""Promises [1] and [17] over the whole program."""

import copy
import itertools
import random
import unittest

from halfbits.benches import Bench
from halfbits.boards import Board, trial
from halfbits.codes import conversion, reflected
from halfbits.demands import first_missed, picked_net, picks_of
from halfbits.errors import BitError, NoDemand, NoMatch, NoNet, TooGreat
from halfbits.nets import NetMaker, is_net, run
from halfbits.rounds import least_rounds, outlines_of
from halfbits.sharp import dull_word, primes, sharp_net, sum_net, surely
from halfbits.sorting import first_unsorted, order_net, sorted_by
from halfbits.tables import first_duller, first_parting, table_of, telling_of
from tests import test_interface
from tests.calls import CALLS, DEMAND
from tests.halves import made_half_demand, made_tight_demand, variants
from tests.support import (
    BitCase, demand_with, is_within_by_definition, made_net, made_table, meet, odd_things, settled_words_of,
    signs_exchanged, words_of,
)
from tests.test_sorting import BUBBLES, placed_word

THING_CALLS = {name: call for name, call in CALLS.items() if "thing" in call[1]}


def exchanged(thing, change):
    """All things that come of changing one part of a thing, at any depth, where change tells another one."""
    for other in change(thing):
        yield other
    if isinstance(thing, (tuple, list)):
        for at in range(len(thing)):
            for part in exchanged(thing[at], change):
                yield type(thing)([*thing[:at], part, *thing[at + 1:]])


def truth_for_number(thing):
    """True or False in the place of an integer, equal to it or not."""
    return [True, False] if type(thing) is int else []


def list_for_tuple(thing):
    """A list in the place of a tuple, or a tuple in that of a list."""
    if isinstance(thing, tuple):
        return [list(thing)]
    return [tuple(thing)] if isinstance(thing, list) else []


def lists_in(thing):
    """All lists within a thing, itself among them."""
    found = [thing] if isinstance(thing, list) else []
    if isinstance(thing, (list, tuple)):
        for part in thing:
            found += lists_in(part)
    return found


def told_things():
    """What the ordinary calls return."""
    return [function(**arguments) for function, arguments, _ in CALLS.values()]


class CallsTest(BitCase):
    """Promise [1], at an ordinary call of each function and method."""

    def test_all_of_the_interface_is_called(self):
        listed = {name for functions in test_interface.FUNCTIONS.values() for name in functions}
        for (_, class_name), methods in test_interface.METHODS.items():
            listed |= {class_name + "." + name for name in methods if not name.startswith("__")} | {class_name}
        self.assertEqual(set(CALLS), listed)

    def test_arguments_by_position_and_by_name_in_any_order(self):
        for name, (function, arguments, _) in CALLS.items():
            told = function(**arguments)
            self.assertEqual(function(**dict(reversed(arguments.items()))), told, name)
            if "." not in name:
                self.assertEqual(function(*arguments.values()), told, name)

    def test_equal_values_for_equal_arguments(self):
        for name, (function, arguments, _) in CALLS.items():
            told = [function(**arguments) for _ in range(3)]
            self.assertEqual(told[0], told[1], name)
            self.assertEqual(repr(told[0]), repr(told[2]), name)
            if "board" not in arguments:
                self.assertEqual(function(**copy.deepcopy(arguments)), told[0], name)

    def test_arguments_are_not_changed(self):
        for name, (function, arguments, _) in CALLS.items():
            before = {key: repr(worth) for key, worth in arguments.items() if key != "board"}
            function(**arguments)
            self.assertEqual({key: repr(arguments[key]) for key in before}, before, name)

    def test_lists_are_new(self):
        for name, (function, arguments, _) in CALLS.items():
            first, second = function(**arguments), function(**arguments)
            lists = lists_in(first) + lists_in(second) + lists_in(list(arguments.values()))
            self.assertEqual(len({id(part) for part in lists}), len(lists), name)
            for part in lists_in(first):
                part.clear()
            self.assertEqual(function(**arguments), second, name)

    def test_truth_values_are_no_integers(self):
        seen = 0
        for name, (function, arguments, _) in CALLS.items():
            for key in arguments:
                for other in exchanged(arguments[key], truth_for_number):
                    seen += 1
                    self.assert_refuses(name, key, other)
        self.assertGreater(seen, 250)

    def test_lists_are_no_tuples(self):
        seen = 0
        for name, (function, arguments, _) in CALLS.items():
            for key in arguments:
                for other in exchanged(arguments[key], list_for_tuple):
                    seen += 1
                    self.assert_refuses(name, key, other)
        self.assertGreater(seen, 200)

    def assert_refuses(self, name, key, other):
        function, arguments, _ = CALLS[name]
        changed = {**arguments, key: other}
        if key == "thing":
            self.assertIs(function(**changed), False, (name, other))
        else:
            with self.assertRaises(BitError, msg=(name, other)):
                function(**changed)

    def test_the_error_for_the_earliest_argument(self):
        for name, (function, arguments, wrong) in CALLS.items():
            self.assertEqual([key for key in arguments if key in wrong], list(wrong), name)
            for many in range(1, len(wrong) + 1):
                for keys in itertools.combinations(wrong, many):
                    changed = {**arguments, **{key: wrong[key][0] for key in keys}}
                    self.assert_raises_just(wrong[keys[0]][1], function, **changed)

    def test_other_values_for_each_argument(self):
        for name, (function, arguments, wrong) in CALLS.items():
            for key, (_, error) in wrong.items():
                if key not in ("is_ring", "sums", "things"):
                    for thing in (None, True, False, {}, -1, 10 ** 12, "~", 3000 * "0", ((),), [[]], (None,), {"0": "1"}):
                        self.assert_raises_just(error, function, **{**arguments, key: thing})

    def test_too_great_comes_last(self):
        gates = tuple(("not", number) for number in range(3))
        great, other = (7, gates, (0,)), (7, (), (0,))
        for function in (first_parting, first_duller):
            self.assert_raises_just(TooGreat, function, great, other)
            self.assert_raises_just(NoNet, function, great, None)
            self.assert_raises_just(NoNet, function, None, great)
            self.assert_raises_just(NoMatch, function, great, (7, (), (0, 1)))
            self.assert_raises_just(NoMatch, function, great, (6, (), (0,)))
        for function, n in ((table_of, 7), (telling_of, 6), (dull_word, 7), (table_of, 32)):
            self.assert_raises_just(TooGreat, function, (n, (), (0,)))
            self.assert_raises_just(NoNet, function, (n, (), (n,)))


class ThingsTest(BitCase):
    """Promise [1], of arguments named thing."""

    def assert_tells(self, thing):
        for name, (function, arguments, _) in THING_CALLS.items():
            told = function(**{**arguments, "thing": thing})
            self.assertIs(type(told), bool, name)

    def test_the_ordinary_things_are_told_true(self):
        for name, (function, arguments, _) in THING_CALLS.items():
            self.assertIs(function(**arguments), True, name)

    def test_all_kinds_of_things(self):
        for thing in odd_things():
            self.assert_tells(thing)

    def test_what_calls_return(self):
        for thing in told_things():
            self.assert_tells(thing)
            if isinstance(thing, tuple):
                self.assert_tells(thing[::-1])
                self.assert_tells(thing + thing)
                self.assert_tells((thing,) * len(thing))

    def test_what_calls_return_with_parts_exchanged(self):
        source = random.Random(160)
        for thing in told_things():
            others = list(itertools.islice(variants(thing), 5000))
            for other in source.sample(others, min(len(others), 40)):
                self.assert_tells(other)

    def test_parts_of_ordinary_things_exchanged_for_all_kinds_of_things(self):
        for name, (function, arguments, _) in THING_CALLS.items():
            for other in odd_things():
                for thing in exchanged(arguments["thing"], lambda part: [other]):
                    self.assertIs(type(function(**{**arguments, "thing": thing})), bool, name)

    def test_objects_as_things(self):
        for thing in (Board(1), Bench(1, 1), (Board(1),), [Bench(1, 1)]):
            self.assert_tells(thing)


class NetsTest(BitCase):
    """Promise [17], of nets and tables."""

    def test_a_word_within_another(self):
        source = random.Random(161)
        for _ in range(60):
            net = made_net(source, source.randint(1, 3), source.randint(0, 12))
            told = {word: run(net, word) for word in words_of(net[0])}
            for word, other in itertools.product(told, repeat=2):
                if is_within_by_definition(word, other):
                    self.assertTrue(is_within_by_definition(told[word], told[other]), (net, word, other))

    def test_sharp_nets_with_one_table(self):
        source = random.Random(162)
        for _ in range(60):
            n = source.randint(1, 3)
            table = made_table(source, n, source.randint(1, 3))
            net = sharp_net(table)
            lows = [primes(table, out, "0") for out in range(len(table[1][0]))]
            contrary = sum_net(n, lows)
            other = (n, contrary[1] + tuple(("not", out) for out in contrary[2]),
                     tuple(n + len(contrary[1]) + at for at in range(len(lows))))
            self.assertIsNone(dull_word(other))
            self.assertIsNone(first_parting(net, other))
            for word in words_of(n):
                self.assertEqual(run(net, word), surely(table, word))

    def test_no_net_with_a_table_tells_more_than_a_sharp_one(self):
        source = random.Random(163)
        for _ in range(80):
            net = made_net(source, source.randint(1, 4), source.randint(0, 12))
            self.assertIsNone(first_duller(sharp_net(table_of(net)), net))

    def test_a_gate_over_sharp_nets_need_not_be_sharp(self):
        for kind in ("and", "or"):
            gates = (("not", 0), (kind, 0, 1))
            self.assertIsNone(dull_word((1, gates[:1], (0, 1))))
            self.assertEqual(dull_word((1, gates, (2,))), "?")


class DemandsTest(BitCase):
    """Promise [17], of demands and rounds."""

    def made_demands(self, seed, many):
        source = random.Random(seed)
        for turn in range(many):
            n, m = source.randint(1, 3), source.randint(1, 2)
            demand = made_tight_demand(source, n, m) if turn % 2 else made_half_demand(source, n, m, 6, 3)
            if demand[2]:
                yield demand

    def test_demands_without_alternatives(self):
        found = set()
        source = random.Random(164)
        for _ in range(150):
            demand = made_half_demand(source, source.randint(1, 3), source.randint(1, 2), source.randint(1, 5), 1)
            contrary = [
                pair for pair in itertools.combinations(demand[2], 2)
                if meet(pair[0][0], pair[1][0]) and not meet(pair[0][1][0], pair[1][1][0])
            ]
            self.assertIs(picks_of(demand) is None, bool(contrary))
            if not contrary:
                self.assertIsNone(first_missed(demand, picked_net(demand, picks_of(demand))))
            found.add(bool(contrary))
        self.assertEqual(found, {True, False})

    def test_rounds_and_picks(self):
        for demand in self.made_demands(165, 100):
            can = [outlines_of(demand, r) is not None for r in (1, 2, 3, 4)]
            self.assertEqual(can, sorted(can))
            self.assertIs(can[0], picks_of(demand) is not None)

    def test_exchanged_demands(self):
        for demand in self.made_demands(166, 50):
            n, m, _ = demand
            answers = (picks_of(demand), least_rounds(demand))
            for order in itertools.permutations(range(n)):
                other = demand_with(demand, lambda word: "".join(word[at] for at in order), str)
                self.assertEqual((picks_of(other), least_rounds(other)), answers)
            for order in itertools.permutations(range(m)):
                other = demand_with(demand, str, lambda let: "".join(let[at] for at in order))
                self.assertEqual((picks_of(other), least_rounds(other)), answers)
            for at in range(n):
                other = demand_with(demand, lambda word: signs_exchanged(word, at), str)
                self.assertEqual((picks_of(other), least_rounds(other)), answers)
            for at in range(m):
                other = demand_with(demand, str, lambda let: signs_exchanged(let, at))
                self.assertEqual((picks_of(other), least_rounds(other)), answers)

    def test_from_plain_numbers_to_reflected_ones(self):
        for bits in (1, 2, 3):
            demand = conversion(tuple(settled_words_of(bits)), reflected(bits))
            self.assertEqual(least_rounds(demand), 2 ** (bits - 1))


class RowsTest(BitCase):
    """Promise [17], of rows of comparators."""

    def row_net(self, row, k, bits):
        """One net for a row of comparators of k words."""
        maker = NetMaker(k * bits)
        comparator = order_net(bits)
        words = [list(range(number * bits, (number + 1) * bits)) for number in range(k)]
        for i, j in row:
            outs = maker.placed(comparator, words[i] + words[j])
            words[i], words[j] = outs[:bits], outs[bits:]
        return maker.net([out for word in words for out in word])

    def test_rows_as_one_net(self):
        source = random.Random(167)
        for k, bits in ((2, 1), (3, 2), (4, 2), (8, 4), (2, 16)):
            for row in (BUBBLES[k], BUBBLES[k][1:], BUBBLES[k][::-1]):
                net = self.row_net(row, k, bits)
                self.assertIs(is_net(net), True)
                for _ in range(25):
                    words = [placed_word(bits, source.randrange(2 * 2 ** bits - 1)) for _ in range(k)]
                    self.assertEqual(run(net, "".join(words)), "".join(sorted_by(row, words)))

    def test_rows_sort_all_lists_exactly_if_they_sort_all_bits(self):
        source = random.Random(168)
        found = set()
        for _ in range(150):
            k = source.randint(2, 4)
            pairs = list(itertools.combinations(range(k), 2))
            row = tuple(source.choice(pairs) for _ in range(source.randint(1, 3 * k)))
            lists = itertools.product(range(5 if k > 3 else 7), repeat=k)
            left = any(
                sorted_by(row, [placed_word(2, place) for place in drawn])
                != [placed_word(2, place) for place in sorted(drawn)]
                for drawn in lists
            )
            self.assertIs(first_unsorted(k, row) is not None, left)
            found.add(left)
        self.assertEqual(found, {True, False})


class ObjectsTest(BitCase):
    """Promise [17], of boards and benches behind calls that raised errors."""

    def assert_answers_as_new(self, board):
        n, gates, outs = board.net()
        other = Board(n)
        for gate in gates:
            other.add(gate)
        other.show(outs)
        self.assertEqual(other.net(), board.net())
        self.assertEqual(len(other), len(board))
        self.assertEqual(other.dull_word(), board.dull_word())
        for word in words_of(n):
            self.assertEqual(board.run(word), other.run(word))
            self.assertEqual(board.run(word), run(board.net(), word))
        things = [("run", "0" * n), ("add", ("not", 0)), [("show", (len(gates),)), ("run", "?" * n)]]
        self.assertEqual(trial(board, things), trial(other, things))

    def test_boards(self):
        source = random.Random(169)
        raised = 0
        for _ in range(40):
            board = Board(source.randint(1, 3))
            for _ in range(25):
                number = source.randrange(8)
                gate = source.choice((("not", number), ("and", 0, number), ("1",), ("or", True, 0), None))
                calls = (
                    lambda: board.add(gate), lambda: board.turn(number, gate), lambda: board.show((number, 0)), board.drop,
                    board.undo, lambda: trial(board, [("add", gate), ["undo", ("show", (number,))], "drop"]),
                    lambda: board.run("0" * number), lambda: trial(board, [[[[[[]]]]]]), lambda: board.add(("1",)),
                    lambda: self.stretch(board, gate),
                )
                try:
                    source.choice(calls)()
                except BitError:
                    raised += 1
            self.assert_answers_as_new(board)
        self.assertGreater(raised, 200)

    def stretch(self, board, gate):
        with board:
            board.add(("0",))
            board.add(gate)
            board.undo()

    def test_benches(self):
        source = random.Random(170)
        raised = 0
        for _ in range(40):
            n, m = source.randint(1, 2), source.randint(1, 2)
            bench = Bench(n, m)
            for _ in range(25):
                word = "".join(source.choice("01?") for _ in range(source.randint(1, 2)))
                lets = tuple(source.choice(words_of(source.randint(1, 2))) for _ in range(source.randint(0, 3)))
                calls = (
                    lambda: bench.tell(word, lets), lambda: bench.tell(word, lets), lambda: bench.withdraw(word), bench.undo,
                    lambda: bench.ask(source.randint(0, 3)), bench.least, bench.demand,
                )
                try:
                    source.choice(calls)()
                except BitError:
                    raised += 1
            self.assert_bench_answers_as_new(bench)
        self.assertGreater(raised, 200)

    def assert_bench_answers_as_new(self, bench):
        if len(bench) == 0:
            for call in (bench.demand, bench.least):
                self.assert_raises_just(NoDemand, call)
            return
        n, m, wishes = bench.demand()
        other = Bench(n, m)
        for word, lets in wishes[::-1]:
            other.tell(word, lets)
        self.assertEqual(other.demand(), bench.demand())
        self.assertEqual(len(other), len(bench))
        self.assertEqual(other.least(), bench.least())
        for r in (1, 2):
            self.assertEqual(other.ask(r), bench.ask(r))
        self.assertEqual(DEMAND, (1, 2, (("0", ("00",)), ("1", ("11",)), ("?", ("0?", "?1")))))


if __name__ == "__main__":
    unittest.main()
