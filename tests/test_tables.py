"""Promises [1] and [4]: tables and tellings, and what of [17] speaks of them."""

import itertools
import random
import unittest

from halfbits.errors import NoMatch, NoNet, TooGreat
from halfbits.nets import run
from halfbits.tables import first_duller, first_parting, is_table, is_telling, table_of, telling_of
from tests.support import (
    NO_NETS, NO_WORDS, BitCase, is_within_by_definition, made_net, made_table, made_telling, odd_things,
    settled_words_of, words_of,
)

DULL_ONE = (1, (("not", 0), ("or", 0, 1)), (2,))
SHARP_ONE = (1, (("1",),), (1,))
NO_LISTINGS = [
    None, True, 1, "", "01", (), (1,), [1, ("0", "1")], (1, ["0", "1"]), (1, "01"), (1, ("0", "1"), ()), (("0", "1"),),
    (("0", "1"), 1), (1, {"0": "1"}), {1: ("0", "1")}, (1, None), (1, ()), (None, ("0", "1")), ("1", ("0", "1")),
    ((1,), ("0", "1")), (1, (0, 1)), (1, (("0",), ("1",))), (1, (["0"], ["1"])), (1, (True, False)),
]


def identity(n):
    """A net that shows its n inputs."""
    return (n, (), tuple(range(n)))


def with_outs(net, source, many):
    """A net with other outs, so many of them."""
    return (net[0], net[1], tuple(source.randrange(net[0] + len(net[1])) for _ in range(many)))


def pairs_of_nets(seed, many):
    """Pairs of small nets with equally many inputs and outs; a part of them with one table."""
    source = random.Random(seed)
    for _ in range(many):
        n, outs = source.randint(1, 4), source.randint(1, 3)
        net = with_outs(made_net(source, n, source.randint(1, 9)), source, outs)
        other = with_outs(made_net(source, n, source.randint(1, 9)), source, outs)
        yield net, other
        n, gates, outs = net
        own = n + len(gates)
        dulling = (("not", 0), ("and", 0, own), ("or", outs[0], own + 1))
        yield net, (n, gates + dulling, (own + 2, *outs[1:]))


class IsTableTest(BitCase):
    def test_ordinary_tables(self):
        self.assertIs(is_table((2, ("0", "0", "0", "1"))), True)
        self.assertIs(is_table((1, ("010", "110"))), True)
        self.assertIs(is_table(thing=(1, ("0", "1"))), True)

    def test_number_of_inputs(self):
        for n, expected in ((1, True), (2, True), (5, True), (6, True), (7, False), (8, False)):
            self.assertIs(is_table((n, ("0",) * 2 ** n)), expected, n)
        self.assertIs(is_table((0, ("0",))), False)
        for n in (True, False, None, "1", -1, 10 ** 12, (1,), [1]):
            for rows in (("0",), ("0", "1")):
                self.assertIs(is_table((n, rows)), False, n)

    def test_number_of_rows(self):
        for n in range(1, 7):
            for many in (0, 1, 2 ** n - 1, 2 ** n + 1, 2 ** (n - 1), 2 ** (n + 1), 3 ** n):
                self.assertIs(is_table((n, ("1",) * many)), False, (n, many))

    def test_rows_in_a_list(self):
        self.assertIs(is_table((1, ["0", "1"])), False)
        self.assertIs(is_table([1, ("0", "1")]), False)

    def test_open_bits(self):
        for word in ("?", "0?", "?1", "???"):
            other = "0" * len(word)
            for rows in ((word, other), (other, word), (word, word)):
                self.assertIs(is_table((1, rows)), False, rows)
        self.assertIs(is_table((2, ("0", "0", "0", "?"))), False)

    def test_number_of_bits(self):
        for bits, expected in ((1, True), (2, True), (31, True), (32, True), (33, False), (0, False)):
            self.assertIs(is_table((1, ("0" * bits, "1" * bits))), expected, bits)
        for rows in (("0", "01"), ("01", "0"), ("0", ""), ("1" * 32, "1" * 31), ("1" * 32, "1" * 33)):
            self.assertIs(is_table((1, rows)), False, rows)
        for at in range(4):
            rows = ["01", "10", "11", "00"]
            rows[at] = "011"
            self.assertIs(is_table((2, tuple(rows))), False, rows)

    def test_rows_that_are_no_words(self):
        for thing in NO_WORDS:
            self.assertIs(is_table((1, (thing, "0"))), False, thing)
            self.assertIs(is_table((1, ("0", thing))), False, thing)
            self.assertIs(is_table((1, (thing, thing))), False, thing)

    def test_other_things(self):
        for thing in NO_LISTINGS + NO_NETS + odd_things():
            self.assertIs(is_table(thing), False)

    def test_tables_with_parts_exchanged(self):
        for thing in odd_things():
            self.assertIs(is_table((thing, ("0", "1"))), type(thing) is int and thing == 1)
            self.assertIs(is_table((1, thing)), thing == ("0", "1"))
            self.assertIs(is_table((thing, thing)), False)
        table = (2, ("00", "01", "10", "11"))
        for thing in (table[::-1], table[:1], table[1:], table + table, (3, table[1]), (1, table[1]), (table, table)):
            self.assertIs(is_table(thing), False)
        self.assertIs(is_table((2, table[1][::-1])), True)


class IsTellingTest(BitCase):
    def test_ordinary_tellings(self):
        self.assertIs(is_telling((1, ("0", "1", "?"))), True)
        self.assertIs(is_telling((1, ("?1", "00", "??"))), True)
        self.assertIs(is_telling((2, ("0",) * 9)), True)
        self.assertIs(is_telling(thing=(1, ("0", "1", "0"))), True)

    def test_number_of_inputs(self):
        for n, expected in ((1, True), (2, True), (3, True), (4, True), (5, True), (6, False), (7, False)):
            self.assertIs(is_telling((n, ("0",) * 3 ** n)), expected, n)
        self.assertIs(is_telling((0, ("0",))), False)
        for n in (True, False, None, "1", -1, 10 ** 12, (1,), [1]):
            for rows in (("0",), ("0", "1", "?")):
                self.assertIs(is_telling((n, rows)), False, n)

    def test_number_of_rows(self):
        for n in range(1, 6):
            for many in (0, 1, 2, 3 ** n - 1, 3 ** n + 1, 2 ** n, 3 ** (n + 1)):
                self.assertIs(is_telling((n, ("?",) * many)), False, (n, many))

    def test_rows_in_a_list(self):
        self.assertIs(is_telling((1, ["0", "1", "?"])), False)
        self.assertIs(is_telling([1, ("0", "1", "?")]), False)

    def test_number_of_bits(self):
        for bits, expected in ((1, True), (2, True), (31, True), (32, True), (33, False), (0, False)):
            self.assertIs(is_telling((1, ("0" * bits, "1" * bits, "?" * bits))), expected, bits)
        for at in range(3):
            for word in ("0", "0??", "", "?" * 33):
                rows = ["01", "10", "??"]
                rows[at] = word
                self.assertIs(is_telling((1, tuple(rows))), False, rows)

    def test_rows_that_are_no_words(self):
        for thing in NO_WORDS:
            self.assertIs(is_telling((1, (thing, "0", "?"))), False, thing)
            self.assertIs(is_telling((1, ("0", "1", thing))), False, thing)
            self.assertIs(is_telling((1, (thing, thing, thing))), False, thing)

    def test_other_things(self):
        for thing in NO_LISTINGS + NO_NETS + odd_things():
            self.assertIs(is_telling(thing), False)

    def test_tellings_with_parts_exchanged(self):
        for thing in odd_things():
            self.assertIs(is_telling((thing, ("0", "1", "?"))), type(thing) is int and thing == 1)
            self.assertIs(is_telling((1, thing)), False)
        telling = (1, ("00", "01", "0?"))
        for thing in (telling[::-1], telling[:1], telling[1:], telling + telling, (2, telling[1])):
            self.assertIs(is_telling(thing), False)


class TableOfTest(BitCase):
    def test_worked_nets(self):
        self.assertEqual(table_of((2, (("and", 0, 1),), (2,))), (2, ("0", "0", "0", "1")))
        self.assertEqual(table_of((2, (("or", 0, 1),), (2,))), (2, ("0", "1", "1", "1")))
        self.assertEqual(table_of((1, (("not", 0),), (1, 0))), (1, ("10", "01")))
        self.assertEqual(table_of((2, (("0",), ("1",)), (2, 3, 0))), (2, ("010", "010", "011", "011")))
        self.assertEqual(table_of(identity(2)), (2, ("00", "01", "10", "11")))
        self.assertEqual(table_of(net=DULL_ONE), (1, ("1", "1")))

    def test_rows_stand_in_the_order_of_the_words(self):
        for n in range(1, 7):
            self.assertEqual(table_of(identity(n)), (n, tuple(settled_words_of(n))))
            self.assertIs(is_table(table_of(identity(n))), True)

    def test_made_nets(self):
        source = random.Random(11)
        for n in range(1, 7):
            for _ in range(6):
                net = made_net(source, n, source.randint(0, 25))
                self.assertEqual(table_of(net), (n, tuple(run(net, word) for word in settled_words_of(n))))

    def test_many_outs_and_gates(self):
        self.assertEqual(table_of((1, (), (0,) * 32)), (1, ("0" * 32, "1" * 32)))
        chain = tuple(("not", own - 1) for own in range(6, 100006))
        rows = tuple(word[5] + "10"[int(word[5])] for word in settled_words_of(6))
        self.assertEqual(table_of((6, chain, (100005, 100004))), (6, rows))

    def test_more_than_six_inputs(self):
        for n in (7, 8, 32):
            self.assert_raises_just(TooGreat, table_of, (n, (), (0,)))

    def test_what_is_no_net(self):
        for thing in NO_NETS + odd_things() + [(7, (), (7,)), (7, (), ()), (33, (), (0,))]:
            self.assert_raises_just(NoNet, table_of, thing)


class TellingOfTest(BitCase):
    def test_worked_nets(self):
        self.assertEqual(telling_of((1, (("not", 0),), (1, 0))), (1, ("10", "01", "??")))
        self.assertEqual(telling_of(DULL_ONE), (1, ("1", "1", "?")))
        self.assertEqual(telling_of(net=SHARP_ONE), (1, ("1", "1", "1")))
        self.assertEqual(
            telling_of((2, (("and", 0, 1), ("or", 0, 1)), (2, 3))),
            (2, ("00", "01", "0?", "01", "11", "?1", "0?", "?1", "??")),
        )

    def test_rows_stand_in_the_order_of_the_words(self):
        for n in range(1, 6):
            self.assertEqual(telling_of(identity(n)), (n, tuple(words_of(n))))
            self.assertIs(is_telling(telling_of(identity(n))), True)

    def test_made_nets(self):
        source = random.Random(12)
        for n in range(1, 6):
            for _ in range(6):
                net = made_net(source, n, source.randint(0, 25))
                self.assertEqual(telling_of(net), (n, tuple(run(net, word) for word in words_of(n))))

    def test_what_is_told_within_a_word_is_within_what_is_told_there(self):
        source = random.Random(13)
        for _ in range(20):
            n, rows = telling_of(made_net(source, source.randint(1, 3), source.randint(1, 12)))
            told = dict(zip(words_of(n), rows))
            for word, other in itertools.product(told, repeat=2):
                if is_within_by_definition(word, other):
                    self.assertIs(is_within_by_definition(told[word], told[other]), True)

    def test_more_than_five_inputs(self):
        for n in (6, 7, 32):
            self.assert_raises_just(TooGreat, telling_of, (n, (), (0,)))

    def test_what_is_no_net(self):
        for thing in NO_NETS + odd_things() + [(6, (), (6,)), (7, (), ())]:
            self.assert_raises_just(NoNet, telling_of, thing)


class ComparingTest(BitCase):
    """What first_parting and first_duller have in common."""

    BOTH = (first_parting, first_duller)

    def test_by_name(self):
        self.assertEqual(first_parting(other=SHARP_ONE, net=DULL_ONE), "?")
        self.assertEqual(first_duller(other=SHARP_ONE, net=DULL_ONE), "?")
        self.assertIsNone(first_duller(other=DULL_ONE, net=SHARP_ONE))

    def test_six_inputs(self):
        net, other = (6, (("not", 5), ("or", 5, 6)), (7,)), (6, (("1",),), (6,))
        for function in self.BOTH:
            self.assertEqual(function(net, other), "00000?")
            self.assertIsNone(function(identity(6), identity(6)))

    def test_what_is_no_net(self):
        for function in self.BOTH:
            for thing in NO_NETS + odd_things():
                self.assert_raises_just(NoNet, function, thing, SHARP_ONE)
                self.assert_raises_just(NoNet, function, SHARP_ONE, thing)
                self.assert_raises_just(NoNet, function, identity(7), thing)
                self.assert_raises_just(NoNet, function, thing, identity(7))

    def test_unlike_numbers_of_inputs_or_outs(self):
        for function in self.BOTH:
            for net, other in ((identity(1), identity(2)), ((1, (), (0,)), (2, (), (0,))),
                               ((1, (), (0, 0)), (1, (), (0,))), ((2, (), (0,)), (2, (), (0, 1)))):
                self.assert_raises_just(NoMatch, function, net, other)
                self.assert_raises_just(NoMatch, function, other, net)

    def test_more_than_six_inputs(self):
        for function in self.BOTH:
            for n in (7, 8, 32):
                self.assert_raises_just(TooGreat, function, identity(n), identity(n))
                self.assert_raises_just(NoMatch, function, identity(n), identity(6))
                self.assert_raises_just(NoMatch, function, (6, (), (0,)), (n, (), (0,)))
                self.assert_raises_just(NoMatch, function, (n, (), (0,)), (n, (), (0, 0)))


class FirstPartingTest(BitCase):
    def test_worked_nets(self):
        self.assertEqual(first_parting(DULL_ONE, SHARP_ONE), "?")
        self.assertEqual(first_parting(SHARP_ONE, DULL_ONE), "?")
        self.assertIsNone(first_parting(DULL_ONE, DULL_ONE))
        self.assertIsNone(first_parting((1, (("not", 0), ("not", 1)), (2,)), (1, (), (0,))))

    def test_first_of_several(self):
        both, either = (2, (("and", 0, 1),), (2,)), (2, (("or", 0, 1),), (2,))
        self.assertEqual(first_parting(both, either), "01")
        self.assertEqual(first_parting(either, both), "01")
        self.assertEqual(first_parting(identity(2), (2, (("not", 1),), (0, 2))), "00")
        self.assertEqual(first_parting(both, (2, (("and", 0, 1), ("and", 2, 0)), (3,))), None)
        self.assertEqual(first_parting((2, (), (0,)), (2, (("and", 0, 1), ("or", 0, 2)), (3,))), None)
        self.assertEqual(first_parting((2, (), (0,)), (2, (("or", 0, 1), ("not", 1), ("or", 0, 3), ("and", 2, 4)),
                                                       (5,))), "0?")

    def test_a_later_out(self):
        self.assertEqual(first_parting((1, DULL_ONE[1], (0, 2)), (1, (("1",),), (0, 1))), "?")

    def test_made_nets(self):
        found = set()
        for net, other in pairs_of_nets(14, 40):
            parting = [word for word in words_of(net[0]) if run(net, word) != run(other, word)]
            expected = parting[0] if parting else None
            self.assertEqual(first_parting(net, other), expected, (net, other))
            self.assertEqual(first_parting(other, net), expected, (net, other))
            found.add(expected if expected is None else expected.count("?"))
        self.assertLessEqual({None, 0, 1}, found)


class FirstDullerTest(BitCase):
    def test_worked_nets(self):
        self.assertEqual(first_duller(DULL_ONE, SHARP_ONE), "?")
        self.assertIsNone(first_duller(SHARP_ONE, DULL_ONE))
        self.assertIsNone(first_duller(DULL_ONE, DULL_ONE))

    def test_contrary_answers(self):
        both, either = (2, (("and", 0, 1),), (2,)), (2, (("or", 0, 1),), (2,))
        self.assertEqual(first_duller(both, either), "01")
        self.assertEqual(first_duller(either, both), "01")

    def test_first_of_several(self):
        dull = (2, (("not", 0), ("or", 0, 2), ("not", 1), ("or", 1, 4), ("and", 3, 5)), (6,))
        self.assertEqual(first_duller(dull, (2, (("1",),), (2,))), "0?")
        self.assertEqual(first_duller(dull, (2, (("1",), ("not", 1), ("or", 1, 3)), (4,))), "?0")
        self.assertIsNone(first_duller((2, (("1",),), (2,)), dull))

    def test_a_later_out(self):
        self.assertEqual(first_duller((1, DULL_ONE[1], (0, 2)), (1, (("1",),), (0, 1))), "?")
        self.assertIsNone(first_duller((1, (("1",),), (0, 1)), (1, DULL_ONE[1], (0, 2))))

    def test_each_duller_than_the_other_somewhere(self):
        net = (1, DULL_ONE[1] + (("1",),), (2, 3))
        other = (1, DULL_ONE[1] + (("1",),), (3, 2))
        self.assertEqual(first_duller(net, other), "?")
        self.assertEqual(first_duller(other, net), "?")

    def test_made_nets(self):
        found = set()
        for net, other in pairs_of_nets(15, 40):
            for here, there in ((net, other), (other, net)):
                duller = [word for word in words_of(here[0])
                          if not is_within_by_definition(run(here, word), run(there, word))]
                expected = duller[0] if duller else None
                self.assertEqual(first_duller(here, there), expected, (here, there))
                found.add(expected if expected is None else expected.count("?"))
        self.assertLessEqual({None, 0, 1}, found)


class SupportTest(unittest.TestCase):
    """What the tests make is what they say."""

    def test_made_values(self):
        source = random.Random(16)
        for n in range(1, 5):
            self.assertIs(is_table(made_table(source, n, 3)), True)
            self.assertIs(is_telling(made_telling(source, n, 3)), True)


if __name__ == "__main__":
    unittest.main()
