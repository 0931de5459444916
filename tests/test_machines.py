"""Promises [1] and [18]: machines, what they can tell, and the nets that they are unrolled to."""

import itertools
import random
import unittest

from halfbits.errors import NoCount, NoDemand, NoKind, NoMachine, NoMatch, NoWord, TooGreat
from halfbits.machines import first_unlike, first_wrong, is_machine, outcomes, unrolled
from halfbits.nets import is_net, run
from halfbits.rounds import outlines_of
from halfbits.stores import reads, rows_of
from tests.halves import NO_COUNTS_OF_ROUNDS, NO_HALF_DEMANDS, keeps, made_half_demand
from tests.support import NO_DEMANDS, NO_NETS, NO_WORDS, BitCase, made_net, odd_things, words_of

KINDS = ("plain", "low", "high")
COPY = (("low",), (), (1, (), (0,)))
# What was read in the round ahead is told.
LATE = (("low",), ("plain",), (2, (), (0, 1)))
DEMAND = (1, 1, (("0", ("0",)), ("?", ("?",)), ("1", ("1",))))
NO_MACHINES = [
    (), (("low",), ()), (("low",), (), (1, (), (0,)), ()), [("low",), (), (1, (), (0,))], (["low"], (), (1, (), (0,))),
    (("low",), [], (1, (), (0,))), (("low",), (), [1, (), (0,)]), ((), (), (1, (), (0,))), ((), ("low",), (1, (), (0, 0))),
    (("low",) * 4, (), (4, (), (0,))), (("low",), ("plain",) * 3, (4, (), (0, 1, 2, 3))), (("lower",), (), (1, (), (0,))),
    (("low",), ("lower",), (2, (), (0, 1))), (("low",), (None,), (2, (), (0, 1))), ((None,), (), (1, (), (0,))),
    (("low",), (), (2, (), (0,))), (("low",), ("low",), (1, (), (0, 0))), (("low", "low"), (), (1, (), (0,))),
    (("low",), ("plain",), (2, (), (0,))), (("low",), ("plain", "plain"), (3, (), (0, 1))), (("low",), (), (1, (), (0,) * 4)),
    (("low",), ("plain",), (2, (), (0,) * 5)), (("low",), ("plain",) * 2, (3, (), (0,) * 6)), (("low",), (), (1, (), ())),
    (("low",), (), (True, (), (0,))), (("low",), (), (1, (), (False,))), (("low",), (), (1, (("not", True),), (0,))),
    ("low", (), (1, (), (0,))), (("low",), "plain", (2, (), (0, 1))), (("low",), None, (1, (), (0,))), {}, "machine", None,
    True, 1, (("low",), (), None), (None, (), (1, (), (0,))), (("low",), 1, (1, (), (0,))), (("low", True), (), (2, (), (0,))),
]


def turns(kind, bit):
    """How a store can be read once: what is read, and what it holds from then on."""
    if bit != "?" or kind == "plain":
        return [(bit, bit)]
    first, last = {"low": "01", "high": "10"}[kind]
    return [(first, "?"), ("?", last), (last, last)]


def outcomes_by_definition(machine, word, r):
    """All words that can be told in round r, looked for round by round."""
    kinds, inner, net = machine
    stores = [(tuple(word) + ("0",) * len(inner), None)]
    for _ in range(r):
        behind = set()
        for held, _ in stores:
            for taken in itertools.product(*[turns(kind, bit) for kind, bit in zip(kinds + inner, held)]):
                answer = run(net, "".join(read for read, _ in taken))
                kept = tuple(bit for _, bit in taken[:len(kinds)])
                behind.add((kept + tuple(answer[:len(inner)]), answer[len(inner):]))
        stores = sorted(behind)
    return sorted({told for _, told in stores})


def made_machine(source, inputs=None, told=None, inner_kinds=KINDS, gates=6):
    """A machine picked by a source of numbers."""
    kinds = tuple(source.choice(KINDS) for _ in range(inputs or source.randint(1, 3)))
    inner = tuple(source.choice(inner_kinds) for _ in range(source.randint(0, 2)))
    n, made, _ = made_net(source, len(kinds) + len(inner), source.randint(0, gates))
    outs = tuple(source.randrange(n + len(made)) for _ in range(len(inner) + (told or source.randint(1, 3))))
    return (kinds, inner, (n, made, outs))


class IsMachineTest(BitCase):
    def test_ordinary_machines(self):
        for machine in (COPY, LATE, (("plain", "high"), ("low", "high"), (4, (("not", 3),), (0, 4, 2)))):
            self.assertIs(is_machine(machine), True)
        self.assertIs(is_machine(thing=COPY), True)

    def test_numbers_of_stores_and_outs(self):
        for kinds, inner, inputs, outs in itertools.product(range(6), range(5), range(1, 8), range(1, 8)):
            thing = (("low",) * kinds, ("high",) * inner, (inputs, (), (0,) * outs))
            fits = 1 <= kinds <= 3 and inner <= 2 and inputs == kinds + inner and 1 <= outs - inner <= 3
            self.assertIs(is_machine(thing), fits, thing)

    def test_other_things(self):
        for thing in NO_MACHINES + NO_NETS + NO_DEMANDS + odd_things():
            self.assertIs(is_machine(thing), False, thing)
            self.assertIs(is_machine((thing, (), (1, (), (0,)))), False)
            self.assertIs(is_machine((("low",), thing, (1, (), (0,)))), thing == () and type(thing) is tuple)
            self.assertIs(is_machine((("low",), (), thing)), False)
            self.assertIs(is_machine(((thing,), (), (1, (), (0,)))), False)
            self.assertIs(is_machine((("low",), (thing,), (2, (), (0, 0)))), False)
        for thing in (COPY[::-1], COPY[:2], COPY[1:], COPY + COPY, (COPY,) * 3, (COPY[0], COPY[0], COPY[2])):
            self.assertIs(is_machine(thing), False)


class OutcomesTest(BitCase):
    def test_worked_machine(self):
        self.assertEqual([outcomes(LATE, "?", 1), outcomes(LATE, "?", 2)], [["0"], ["0", "1", "?"]])
        self.assertEqual(outcomes(r=3, word="?", machine=LATE), ["0", "1", "?"])
        self.assertEqual([outcomes(COPY, word, 1) for word in "01?"], [["0"], ["1"], ["0", "1", "?"]])

    def test_one_store_of_each_kind(self):
        net = (1, (), (0,))
        for kind, r in itertools.product(KINDS, range(1, 9)):
            for bit in "01?":
                expected = sorted({row[-1] for row in reads(kind, bit, r)})
                self.assertEqual(outcomes(((kind,), (), net), bit, r), expected)

    def test_an_inner_store_of_each_kind(self):
        for kind in KINDS:
            # It is written with what the plain input holds, and told a round later.
            machine = (("plain",), (kind,), (2, (), (0, 1)))
            for bit in "01?":
                self.assertEqual(outcomes(machine, bit, 1), ["0"])
                for r in (2, 5, 8):
                    expected = ["0", "1", "?"] if bit == "?" and kind != "plain" else [bit]
                    self.assertEqual(outcomes(machine, bit, r), expected)
            # It is written with the contrary of what it is read as.
            machine = (("plain",), (kind,), (2, (("not", 1),), (2, 1)))
            self.assertEqual([outcomes(machine, "?", r) for r in (1, 2, 3)], [["0"], ["1"], ["0"]])

    def test_what_inner_stores_hold_goes_on(self):
        # The first inner store keeps the or of all reads, the second one what the first one was read as.
        net = (3, (("or", 0, 1),), (3, 1, 2))
        for kinds in itertools.product(KINDS, repeat=3):
            machine = (kinds[:1], kinds[1:], net)
            for word, r in itertools.product("01?", range(1, 6)):
                self.assertEqual(outcomes(machine, word, r), outcomes_by_definition(machine, word, r))

    def test_made_machines(self):
        source = random.Random(150)
        for _ in range(120):
            machine = made_machine(source)
            self.assertIs(is_machine(machine), True)
            for word in source.sample(words_of(len(machine[0])), 3):
                r = source.randint(1, 4)
                self.assertEqual(outcomes(machine, word, r), outcomes_by_definition(machine, word, r), (machine, word, r))

    def test_all_rounds(self):
        source = random.Random(151)
        for _ in range(6):
            machine = made_machine(source, inputs=2)
            for r in range(1, 9):
                self.assertEqual(outcomes(machine, "??", r), outcomes_by_definition(machine, "??", r))

    def test_greatest_machines(self):
        source = random.Random(152)
        for inner in (("low", "high"), ("plain", "plain"), ("high", "high")):
            n, gates, _ = made_net(source, 5, 60)
            machine = (("low", "high", "low"), inner, (n, gates, (64, 63, 62, 61, 60)))
            told = outcomes(machine, "???", 8)
            self.assertEqual(told, sorted(set(told)))
            self.assertIsNone(first_unlike(machine, machine, 8))
        gates = tuple(("not", number) for number in range(5, 100000))
        machine = (("low", "high", "low"), ("low", "low"), (5, (("or", 0, 3),) + gates, (5, 100000, 1, 2, 4)))
        self.assertEqual(len(outcomes(machine, "???", 8)), 27)

    def test_each_call_returns_a_new_list(self):
        outcomes(COPY, "?", 1).clear()
        self.assertEqual(outcomes(COPY, "?", 1), ["0", "1", "?"])

    def test_what_is_no_machine(self):
        for thing in NO_MACHINES + odd_things():
            for word, r in (("0", 1), ("x", 1), ("00", 1), ("0", 0)):
                self.assert_raises_just(NoMachine, outcomes, thing, word, r)

    def test_what_is_no_word(self):
        for thing in NO_WORDS + odd_things():
            for r in (1, 0, True):
                self.assert_raises_just(NoWord, outcomes, LATE, thing, r)

    def test_words_of_another_number_of_bits(self):
        for word in ("00", "???", "0" * 32):
            for r in (1, 0, None):
                self.assert_raises_just(NoMatch, outcomes, LATE, word, r)
        self.assert_raises_just(NoMatch, outcomes, (("low",) * 3, ("low",), (4, (), (0, 1))), "0000", 1)

    def test_what_is_no_number_of_rounds(self):
        for r in NO_COUNTS_OF_ROUNDS:
            self.assert_raises_just(NoCount, outcomes, LATE, "0", r)


class FirstWrongTest(BitCase):
    def test_worked_demands(self):
        self.assertIsNone(first_wrong(DEMAND, COPY, 1))
        self.assertEqual(first_wrong(DEMAND, LATE, 1), (2, "0"))
        self.assertIsNone(first_wrong(r=2, machine=LATE, demand=DEMAND))
        self.assertEqual(first_wrong((1, 1, (("?", ("0",)),)), LATE, 2), (0, "1"))
        self.assertEqual(first_wrong((1, 1, (("1", ("1",)), ("?", ("1", "0")))), COPY, 4), (1, "?"))

    def test_made_machines(self):
        source = random.Random(153)
        found = set()
        for _ in range(200):
            machine = made_machine(source, told=source.randint(1, 2))
            m = len(machine[2][2]) - len(machine[1])
            demand = made_half_demand(source, len(machine[0]), m, source.randint(1, 4), 8)
            r = source.randint(1, 3)
            expected = next((
                (number, told)
                for number, (word, lets) in enumerate(demand[2])
                for told in outcomes_by_definition(machine, word, r)
                if not keeps(told, lets)
            ), None)
            self.assertEqual(first_wrong(demand, machine, r), expected, (demand, machine, r))
            found.add(expected if expected is None else expected[0])
        self.assertLessEqual({None, 0, 1, 2}, found)

    def test_plain_inner_stores_need_outlines(self):
        source = random.Random(154)
        met = 0
        for _ in range(400):
            machine = made_machine(source, inputs=source.randint(1, 2), told=2, inner_kinds=("plain",))
            demand = made_half_demand(source, len(machine[0]), 2, source.randint(2, 4), 4)
            r = source.randint(1, 3)
            if first_wrong(demand, machine, r) is None:
                met += 1
                self.assertIsNotNone(outlines_of(demand, r), (demand, machine, r))
        self.assertGreater(met, 20)

    def test_errors_in_the_order_of_the_arguments(self):
        for demand in NO_DEMANDS + NO_HALF_DEMANDS + odd_things():
            for machine, r in ((COPY, 1), (None, 1), (COPY, 0)):
                self.assert_raises_just(NoDemand, first_wrong, demand, machine, r)
        for machine in NO_MACHINES + odd_things():
            for r in (1, 0, True):
                self.assert_raises_just(NoMachine, first_wrong, DEMAND, machine, r)
        for machine in ((("low",) * 2, (), (2, (), (0,))), (("low",), (), (1, (), (0, 0))), (("low",), ("low",), (2, (), (0,) * 3))):
            for r in (1, 0, None):
                self.assert_raises_just(NoMatch, first_wrong, DEMAND, machine, r)
        for r in NO_COUNTS_OF_ROUNDS:
            self.assert_raises_just(NoCount, first_wrong, DEMAND, COPY, r)


class FirstUnlikeTest(BitCase):
    def test_worked_machines(self):
        self.assertEqual(first_unlike(COPY, LATE, 1), "1")
        self.assertIsNone(first_unlike(COPY, LATE, 2))
        plain = (("plain",), (), (1, (), (0,)))
        self.assertEqual(first_unlike(other=plain, machine=COPY, r=1), "?")
        self.assertIsNone(first_unlike(plain, plain, 8))

    def test_made_machines(self):
        source = random.Random(155)
        found = set()
        for _ in range(150):
            inputs = source.randint(1, 2)
            machine, other = (made_machine(source, inputs=inputs, told=1, gates=2) for _ in range(2))
            r = source.randint(1, 3)
            expected = next((
                word
                for word in words_of(inputs)
                if outcomes_by_definition(machine, word, r) != outcomes_by_definition(other, word, r)
            ), None)
            self.assertEqual(first_unlike(machine, other, r), expected, (machine, other, r))
            found.add(expected)
        self.assertLessEqual({None, "0", "1", "?", "00", "01", "0?"}, found)

    def test_errors_in_the_order_of_the_arguments(self):
        for machine in NO_MACHINES + odd_things():
            for other, r in ((COPY, 1), (None, 0)):
                self.assert_raises_just(NoMachine, first_unlike, machine, other, r)
            self.assert_raises_just(NoMachine, first_unlike, COPY, machine, 1)
            self.assert_raises_just(NoMachine, first_unlike, COPY, machine, 0)
        for other in ((("low",) * 2, (), (2, (), (0,))), (("low",), (), (1, (), (0, 0))), (("low",), ("low",), (2, (), (0,) * 3))):
            for r in (1, 9, False):
                self.assert_raises_just(NoMatch, first_unlike, COPY, other, r)
        for r in NO_COUNTS_OF_ROUNDS:
            self.assert_raises_just(NoCount, first_unlike, COPY, LATE, r)


class UnrolledTest(BitCase):
    def assert_unrolls(self, machine, r):
        kinds, inner, net = machine
        made = unrolled(machine, r)
        self.assertIs(is_net(made), True)
        self.assertEqual((made[0], len(made[2])), (r * len(kinds), len(net[2]) - len(inner)))
        for word in words_of(len(kinds)):
            rows = rows_of(kinds, r, word)
            self.assertEqual(sorted({run(made, row) for row in rows}), outcomes(machine, word, r), (machine, word, r))
        return made

    def told_by_reads(self, machine, r, row):
        """What a machine with plain inner stores tells in round r when a row is read."""
        kinds, inner, net = machine
        held = "0" * len(inner)
        for turn in range(r):
            answer = run(net, row[turn::r] + held)
            held = answer[:len(inner)]
        return answer[len(inner):]

    def test_worked_machines(self):
        self.assertEqual(run(self.assert_unrolls(LATE, 2), "10"), "1")
        self.assertEqual(run(unrolled(r=3, machine=LATE), "010"), "1")
        self.assertEqual(run(unrolled(LATE, 1), "1"), "0")
        self.assertEqual(run(unrolled(COPY, 3), "001"), "1")

    def test_numbers_of_inner_stores(self):
        self.assert_unrolls(COPY, 3)
        self.assert_unrolls(LATE, 4)
        # Two stores of a row that goes on in each round.
        row = (("high", "low"), ("plain", "plain"), (4, (("and", 0, 3), ("or", 1, 2)), (5, 4, 2, 3, 4)))
        for r in (1, 2, 3):
            self.assert_unrolls(row, r)

    def test_made_machines(self):
        source = random.Random(156)
        for _ in range(60):
            machine = made_machine(source, inner_kinds=("plain",))
            r = source.randint(1, 3)
            made = self.assert_unrolls(machine, r)
            for _ in range(5):
                row = "".join(source.choice("01?") for _ in range(r * len(machine[0])))
                self.assertEqual(run(made, row), self.told_by_reads(machine, r, row), (machine, r, row))

    def test_greatest_machines(self):
        source = random.Random(157)
        n, gates, _ = made_net(source, 5, 60)
        machine = (("low", "high", "plain"), ("plain", "plain"), (n, gates, (64, 63, 62, 61, 60)))
        made = unrolled(machine, 8)
        self.assertIs(is_net(made), True)
        self.assertEqual(made[0], 24)
        for _ in range(20):
            row = "".join(source.choice("01?") for _ in range(24))
            self.assertEqual(run(made, row), self.told_by_reads(machine, 8, row))

    def test_many_gates(self):
        gates = tuple(("not", number) for number in range(99900))
        machine = (("low",), (), (1, gates, (99900,)))
        self.assertIs(is_net(unrolled(machine, 1)), True)
        machine = (("low",), ("plain",), (2, tuple(("not", number) for number in range(1, 12488)), (12488, 12488)))
        made = unrolled(machine, 8)
        self.assertIs(is_net(made), True)
        self.assertEqual(run(made, "????????"), "0")
        machine = (("low",), ("plain",), (2, tuple(("not", number) for number in range(1, 20000)), (20000, 20000)))
        self.assert_raises_just(TooGreat, unrolled, machine, 8)
        self.assert_raises_just(TooGreat, unrolled, machine, 6)
        self.assertIs(is_net(unrolled(machine, 4)), True)
        # With the gate for the "0" that the inner store holds at first there would be one gate too many.
        machine = (("low",), ("plain",), (2, tuple(("not", number) for number in range(1, 100001)), (100001, 100001)))
        self.assert_raises_just(TooGreat, unrolled, machine, 1)
        self.assert_raises_just(NoCount, unrolled, machine, 9)

    def test_inner_stores_that_are_not_plain(self):
        for inner in (("low",), ("high",), ("plain", "low"), ("high", "plain"), ("low", "high")):
            machine = (("low",), inner, (1 + len(inner), (), (0,) * (1 + len(inner))))
            for r in (1, 0, True):
                self.assert_raises_just(NoKind, unrolled, machine, r)

    def test_errors_in_the_order_of_the_arguments(self):
        for machine in NO_MACHINES + odd_things():
            for r in (1, 0):
                self.assert_raises_just(NoMachine, unrolled, machine, r)
        for r in NO_COUNTS_OF_ROUNDS:
            self.assert_raises_just(NoCount, unrolled, LATE, r)


if __name__ == "__main__":
    unittest.main()
