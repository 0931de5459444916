"""Promises [1] and [10]: stores that are read several times, half demands, and plans."""

import itertools
import random
import re
import unittest

from halfbits.errors import NoCount, NoDemand, NoKind, NoMatch, NoPlan, NoWord
from halfbits.nets import run
from halfbits.stores import first_failing, reads, rows_of
from tests.halves import NO_COUNTS_OF_ROUNDS, NO_HALF_DEMANDS, half_words_of, keeps, made_half_demand
from tests.support import NO_DEMANDS, NO_NETS, NO_WORDS, BitCase, made_net, odd_things, words_of

KINDS = ("plain", "low", "high")
PATTERNS = {"plain": r"\?*", "low": r"0*\??1*", "high": r"1*\??0*"}
NO_KINDS = [
    "", "Low", "low ", "lower", "l", "plain,low", "0", None, True, False, 0, 1, ("low",), ["low"], {"low": 1}, (), [],
]
NO_BITS = ["", "00", "0?", "??", "01?", "2", " ", None, True, False, 0, 1, ("0",), ["0"], {"0": 1}, (), []]
DEMAND = (1, 1, (("?", ("0", "1")), ("0", ("0",)), ("1", ("1",))))
COPY = (("low",), 1, (1, (), (0,)))
FIRST_READ = (("low",), 2, (2, (), (0,)))


def reads_by_definition(kind, bit, r):
    """The rows of r signs that a store can be read as, picked out of all of them."""
    pattern = re.escape(bit) + "*" if bit != "?" else PATTERNS[kind]
    return [row for row in words_of(r) if re.fullmatch(pattern, row)]


def rows_by_definition(kinds, r, word):
    """All ways to put together what can be read of each store."""
    choices = [reads_by_definition(kind, bit, r) for kind, bit in zip(kinds, word)]
    return sorted("".join(parts) for parts in itertools.product(*choices))


def first_failing_by_definition(demand, plan):
    """The first wish and read word at which what a net tells does not keep to the lets."""
    kinds, r, net = plan
    for number, (word, lets) in enumerate(demand[2]):
        for row in rows_by_definition(kinds, r, word):
            if not keeps(run(net, row), lets):
                return (number, row)
    return None


class ReadsTest(BitCase):
    def test_all_kinds_bits_and_numbers(self):
        for kind, bit, r in itertools.product(KINDS, "01?", range(1, 9)):
            self.assertEqual(reads(kind, bit, r), reads_by_definition(kind, bit, r), (kind, bit, r))
        self.assertEqual(reads("low", "?", 2), ["00", "01", "0?", "11", "?1"])
        self.assertEqual(reads("high", "?", 1), ["0", "1", "?"])
        self.assertEqual(reads("plain", "?", 3), ["???"])
        self.assertEqual(reads(r=4, bit="1", kind="high"), ["1111"])

    def test_each_call_returns_a_new_list(self):
        for kind, bit in itertools.product(KINDS, "01?"):
            first = reads(kind, bit, 3)
            expected = list(first)
            first.append("changed")
            self.assertEqual(reads(kind, bit, 3), expected)
            self.assertIsNot(reads(kind, bit, 3), reads(kind, bit, 3))

    def test_what_is_no_kind(self):
        for kind in NO_KINDS + odd_things():
            for bit, r in (("?", 1), ("x", 1), ("0", 0), (None, True)):
                self.assert_raises_just(NoKind, reads, kind, bit, r)

    def test_what_is_no_bit(self):
        for kind, bit, r in itertools.product(KINDS, NO_BITS + odd_things(), (1, 0)):
            self.assert_raises_just(NoKind, reads, kind, bit, r)

    def test_what_is_no_number_of_reads(self):
        for kind, bit, r in itertools.product(KINDS, "01?", NO_COUNTS_OF_ROUNDS):
            self.assert_raises_just(NoCount, reads, kind, bit, r)


class RowsOfTest(BitCase):
    def test_all_kinds_and_words(self):
        for many, r in ((1, 1), (1, 2), (1, 5), (1, 8), (2, 1), (2, 2), (2, 3), (3, 1), (3, 2)):
            for kinds in itertools.product(KINDS, repeat=many):
                for word in words_of(many):
                    rows = rows_of(kinds, r, word)
                    self.assertEqual(rows, rows_by_definition(kinds, r, word), (kinds, r, word))
                    self.assertEqual(rows, sorted(set(rows)))
        self.assertEqual(rows_of(("high", "plain"), 1, "?0"), ["00", "10", "?0"])
        self.assertEqual(rows_of(word="1", r=2, kinds=("plain",)), ["11"])

    def test_greatest_numbers(self):
        for kinds in (("low", "high", "low"), ("high", "high", "plain")):
            rows = rows_of(kinds, 8, "???")
            self.assertEqual(len(rows), 17 ** (3 - kinds.count("plain")))
            self.assertEqual(rows, sorted(set(rows)))
            self.assertEqual({len(row) for row in rows}, {24})
        self.assertEqual(rows_of(("low", "low", "low"), 8, "?01")[:2], ["0" * 16 + "1" * 8, "0" * 7 + "1" + "0" * 8 + "1" * 8])

    def test_each_call_returns_a_new_list(self):
        first = rows_of(("low",), 1, "?")
        first.clear()
        self.assertEqual(rows_of(("low",), 1, "?"), ["0", "1", "?"])

    def test_what_are_no_kinds(self):
        for kinds in [(), ("low",) * 4, ["low"], "low", {"low": 1}, ("low", None), ("low", "low", "x"), (("low",),)]:
            for r, word in ((1, "0"), (0, "0"), (1, "x"), (True, None), (1, "00"), (1, "0000")):
                self.assert_raises_just(NoKind, rows_of, kinds, r, word)
        for thing in NO_KINDS + odd_things():
            self.assert_raises_just(NoKind, rows_of, thing if thing != ("low",) else None, 1, "0")
            self.assert_raises_just(NoKind, rows_of, (thing,), 1, "0")
            self.assert_raises_just(NoKind, rows_of, ("high", thing), 1, "00")

    def test_what_is_no_number_of_reads(self):
        for r, word in itertools.product(NO_COUNTS_OF_ROUNDS, ("0", "x", "00", None)):
            self.assert_raises_just(NoCount, rows_of, ("low",), r, word)

    def test_what_is_no_word(self):
        for word in NO_WORDS + odd_things():
            self.assert_raises_just(NoWord, rows_of, ("low",), 1, word)

    def test_words_of_another_number_of_bits(self):
        for many in (1, 2, 3):
            for bits in (1, 2, 3, 4, 32):
                if bits != many:
                    self.assert_raises_just(NoMatch, rows_of, ("high",) * many, 1, "?" * bits)


class FirstFailingTest(BitCase):
    def test_plans_that_meet_a_demand(self):
        self.assertIsNone(first_failing((1, 1, DEMAND[2][1:]), COPY))
        self.assertIsNone(first_failing(plan=COPY, demand=(1, 1, (("?", ("?",)),))))
        # Of two reads of a store that masks at most one is "?", so one of the outs is settled.
        demand = (1, 2, (("?", ("0?", "?1")), ("0", ("00",)), ("1", ("11",))))
        self.assertIsNone(first_failing(demand, (("low",), 2, (2, (), (0, 1)))))
        self.assertIsNone(first_failing(demand, (("high",), 2, (2, (), (1, 0)))))
        self.assertEqual(first_failing(demand, (("plain",), 2, (2, (), (0, 1)))), (0, "??"))
        self.assertEqual(first_failing(demand, (("high",), 2, (2, (), (0, 1)))), (0, "10"))

    def test_the_first_wish_and_its_first_read_word(self):
        self.assertEqual(first_failing(DEMAND, COPY), (0, "?"))
        self.assertEqual(first_failing(DEMAND, FIRST_READ), (0, "?1"))
        self.assertEqual(first_failing(DEMAND, (("low",), 2, (2, (("not", 0),), (2,)))), (0, "?1"))
        self.assertEqual(first_failing(DEMAND, (("high",), 2, (2, (), (0,)))), (0, "?0"))
        self.assertEqual(first_failing(DEMAND, (("low",), 2, (2, (), (1,)))), (0, "0?"))
        self.assertEqual(first_failing((1, 1, DEMAND[2][::-1]), FIRST_READ), (2, "?1"))
        self.assertEqual(first_failing((1, 1, DEMAND[2][::-1]), (("low",), 1, (1, (("1",),), (1,)))), (1, "0"))
        self.assertEqual(first_failing((1, 1, (("?", ("1",)),)), FIRST_READ), (0, "00"))

    def test_unlike_lets_for_unlike_reads(self):
        demand = (1, 2, (("?", ("0?", "?1")),))
        self.assertIsNone(first_failing(demand, (("low",), 2, (2, (), (0, 1)))))
        self.assertEqual(first_failing(demand, (("low",), 2, (2, (), (1, 0)))), (0, "01"))
        self.assertEqual(first_failing((1, 2, (("?", ("0?", "11")),)), (("low",), 2, (2, (), (0, 1)))), (0, "?1"))

    def test_made_plans(self):
        source = random.Random(70)
        found = set()
        for _ in range(300):
            n, m, r = source.randint(1, 3), source.randint(1, 2), source.randint(1, 3)
            demand = made_half_demand(source, n, m, source.randint(1, 4), 8)
            inputs, gates, _ = made_net(source, n * r, source.randint(0, 6))
            outs = tuple(source.randrange(inputs + len(gates)) for _ in range(m))
            plan = (tuple(source.choice(KINDS) for _ in range(n)), r, (inputs, gates, outs))
            expected = first_failing_by_definition(demand, plan)
            self.assertEqual(first_failing(demand, plan), expected, (demand, plan))
            found.add(None if expected is None else expected[0])
        self.assertLessEqual({None, 0, 1, 2}, found)

    def test_greatest_plans(self):
        lets = tuple(words_of(3)[:7]) + ("???",)
        demand = (3, 3, tuple((word, lets) for word in half_words_of(3)))
        net = (24, tuple(("and", 0, number) for number in range(24)), (24, 30, 47))
        self.assertIsNone(first_failing(demand, (("low", "high", "low"), 8, net)))
        narrow = (3, 3, demand[2][:-1] + (("?11", ("0??",)),))
        self.assertEqual(first_failing(narrow, (("low", "high", "low"), 8, net)), (19, "1" * 24))

    def test_what_is_no_half_demand(self):
        for thing in NO_DEMANDS + NO_HALF_DEMANDS + odd_things():
            self.assert_raises_just(NoDemand, first_failing, thing, COPY)
            self.assert_raises_just(NoDemand, first_failing, thing, None)

    def test_what_is_no_plan(self):
        net = (2, (), (0,))
        wrong = [
            (("low",), 2), (("low",), 2, net, ()), [("low",), 2, net], (["low"], 2, net), (("low",), 0, net),
            (("low",), 9, (9, (), (0,))), (("low",), True, (1, (), (0,))), (("low",), 1, net), (("low",), 3, net),
            (("low", "low"), 2, net), ((), 2, net), (("low",) * 4, 1, (4, (), (0,))), (("lower",), 2, net),
            (("low",), 2, [2, (), (0,)]), (("low",), 2, None), (("low",), "2", net), (("low",), (2,), net),
            ("low", 2, net), (None, 2, net), (("low", None), 1, net), (("low",), 2, (2, (("and", 0, 2),), (2,))),
            (("low", True), 1, net), ((), 1, (1, (), (0,))), {}, "plan", COPY[::-1], COPY + COPY,
        ]
        for thing in wrong + NO_NETS + odd_things():
            self.assert_raises_just(NoPlan, first_failing, DEMAND, thing)
            if thing != ("low",):
                self.assert_raises_just(NoPlan, first_failing, DEMAND, (thing, 2, net))
            if type(thing) is not int or thing != 2:
                self.assert_raises_just(NoPlan, first_failing, DEMAND, (("low",), thing, net))
            self.assert_raises_just(NoPlan, first_failing, DEMAND, (("low",), 2, thing))

    def test_other_numbers_of_inputs_or_outs(self):
        plans = (
            (("low", "low"), 1, (2, (), (0,))), (("low",), 2, (2, (), (0, 1))), (("low",) * 3, 1, (3, (), (0, 1, 2))),
            (("plain",), 1, (1, (), (0,) * 32)),
        )
        for plan in plans:
            self.assert_raises_just(NoMatch, first_failing, DEMAND, plan)
        self.assert_raises_just(NoMatch, first_failing, (2, 2, (("0?", ("00",)),)), COPY)


if __name__ == "__main__":
    unittest.main()
