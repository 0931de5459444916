"""Promises [1], [5] and [6]: what tables surely tell, primes and sums, and what of [17] speaks of sharp nets."""

import itertools
import random
import unittest

from halfbits.errors import NoCount, NoKind, NoMatch, NoNet, NoSum, NoTable, NoWord, TooGreat
from halfbits.nets import is_net, run
from halfbits.sharp import dull_word, is_sharp_sum, primes, sharp_net, sum_net, surely
from halfbits.tables import first_duller, first_parting, table_of
from tests.support import (
    NO_NETS, NO_WORDS, BitCase, is_within_by_definition, joined_by_definition, made_net, made_table, odd_things,
    settled_words_of, settlings_by_definition, words_of,
)

EXAMPLE = (3, ("0", "0", "0", "1", "1", "0", "1", "1"))
AND_TABLE = (2, ("0", "0", "0", "1"))
NO_TABLES = [
    (1, ("0",)), (1, ("0", "1", "1")), (1, ["0", "1"]), [1, ("0", "1")], (1, ("0", "?")), (1, ("0", "11")),
    (7, ("0",) * 128), (0, ("0",)), (True, ("0", "1")), (1, ("0" * 33, "1" * 33)), (1, ("0", 1)), None, "01",
]
NO_OUTS = [-1, 2, 3, 10 ** 12, -10 ** 12, True, False, None, "0", "", (0,), [0], {}]
NO_BITS = ["?", "", "01", "00", " ", "2", 0, 1, True, False, None, ("0",), ["1"], {"0": "1"}, []]
NO_SUMS = [None, True, 0, 1, "", "0", "01", (), ("0",), (["0"],), {}, {"0": "1"}, {0: ["0"]}]


def sure_by_definition(table, word):
    """The answers of a table at the settlings of a word, joined."""
    n, rows = table
    return joined_by_definition([rows[int(settled, 2)] for settled in settlings_by_definition(word)])


def primes_by_definition(table, out, bit):
    """The words at which an out surely has a bit, within no other one, out of all words."""
    having = [word for word in words_of(table[0]) if sure_by_definition(table, word)[out] == bit]
    return [
        word for word in having
        if not any(word != other and is_within_by_definition(word, other) for other in having)
    ]


def product_by_definition(product, word):
    """What the product of the settled bits of one word tells at another."""
    pairs = [(bit, sign) for bit, sign in zip(product, word) if bit != "?"]
    if any(bit != sign and sign != "?" for bit, sign in pairs):
        return "0"
    return "1" if all(bit == sign for bit, sign in pairs) else "?"


def sum_by_definition(words, word):
    """What the or of the products tells at a word."""
    told = [product_by_definition(product, word) for product in words]
    return "1" if "1" in told else "?" if "?" in told else "0"


def made_words(source, n, many):
    """A list of words of n bits, perhaps some of them twice."""
    return ["".join(source.choice("01?") for _ in range(n)) for _ in range(many)]


class SurelyTest(BitCase):
    def test_worked_words(self):
        self.assertEqual(surely(EXAMPLE, "11?"), "1")
        self.assertEqual(surely(EXAMPLE, "0??"), "?")
        self.assertEqual(surely(EXAMPLE, "00?"), "0")
        self.assertEqual(surely(AND_TABLE, "0?"), "0")
        self.assertEqual(surely(AND_TABLE, "??"), "?")
        self.assertEqual(surely((1, ("1", "1")), "?"), "1")
        self.assertEqual(surely((1, ("010", "110")), "?"), "?10")
        self.assertEqual(surely(word="?", table=(1, ("0" * 32, "1" * 31 + "0"))), "?" * 31 + "0")

    def test_settled_words_have_their_rows(self):
        source = random.Random(20)
        for n in range(1, 7):
            table = made_table(source, n, 3)
            self.assertEqual([surely(table, word) for word in settled_words_of(n)], list(table[1]))

    def test_wide_words_have_the_answers_joined(self):
        source = random.Random(21)
        for n in range(1, 5):
            for _ in range(4):
                table = made_table(source, n, source.randint(1, 4))
                for word in words_of(n):
                    self.assertEqual(surely(table, word), sure_by_definition(table, word), (table, word))

    def test_six_inputs(self):
        rows = tuple("01"[word[:3] == "101"] for word in settled_words_of(6))
        for word in words_of(6)[::13] + ["101???", "0?????", "??????", "?01000"]:
            self.assertEqual(surely((6, rows), word), sure_by_definition((6, rows), word), word)
        self.assertEqual(surely((6, rows), "101???"), "1")
        self.assertEqual(surely((6, rows), "0?????"), "0")
        self.assertEqual(surely((6, ("1",) * 64), "??????"), "1")

    def test_what_is_no_table(self):
        for thing in NO_TABLES + odd_things():
            self.assert_raises_just(NoTable, surely, thing, "0")
            self.assert_raises_just(NoTable, surely, thing, "x")

    def test_what_is_no_word(self):
        for thing in NO_WORDS:
            self.assert_raises_just(NoWord, surely, (1, ("0", "1")), thing)

    def test_another_number_of_bits(self):
        for word in ("0", "?", "000", "???", "0" * 32):
            self.assert_raises_just(NoMatch, surely, AND_TABLE, word)


class DullWordTest(BitCase):
    def test_sharp_nets(self):
        for net in ((1, (), (0,)), (1, (("not", 0),), (1, 0)), (2, (("and", 0, 1),), (2,)),
                    (2, (("0",), ("1",)), (2, 3)), (2, (("and", 0, 1), ("not", 2), ("or", 0, 1)), (2, 3, 4))):
            self.assertIsNone(dull_word(net), net)

    def test_dull_nets(self):
        self.assertEqual(dull_word((1, (("not", 0), ("or", 0, 1)), (2,))), "?")
        self.assertEqual(dull_word((1, (("not", 0), ("and", 0, 1)), (2,))), "?")
        self.assertEqual(dull_word(net=(2, (("not", 0), ("or", 0, 2)), (1, 3))), "?0")

    def test_first_of_several_words(self):
        dull = (2, (("not", 0), ("or", 0, 2), ("not", 1), ("or", 1, 4), ("and", 3, 5)), (6,))
        self.assertEqual(dull_word(dull), "0?")
        self.assertEqual(dull_word((2, dull[1], (3, 5))), "0?")
        self.assertEqual(dull_word((2, dull[1], (3, 0))), "?0")
        self.assertEqual(dull_word((2, dull[1] + (("and", 0, 6),), (7,))), "1?")

    def test_made_nets(self):
        source = random.Random(22)
        found = set()
        for _ in range(60):
            net = made_net(source, source.randint(1, 4), source.randint(1, 20))
            table = table_of(net)
            dull = [word for word in words_of(net[0]) if run(net, word) != sure_by_definition(table, word)]
            self.assertEqual(dull_word(net), dull[0] if dull else None, net)
            found.add(dull_word(net) is None)
        self.assertEqual(found, {True, False})

    def test_number_of_inputs(self):
        self.assertIsNone(dull_word((6, (), (0, 1, 2, 3, 4, 5))))
        self.assertEqual(dull_word((6, (("not", 5), ("or", 5, 6)), (7,))), "00000?")
        for n in (7, 8, 32):
            self.assert_raises_just(TooGreat, dull_word, (n, (), (0,)))

    def test_what_is_no_net(self):
        for thing in NO_NETS + odd_things() + [(7, (), (7,)), (7, (), ())]:
            self.assert_raises_just(NoNet, dull_word, thing)


class PrimesTest(BitCase):
    def test_worked_tables(self):
        self.assertEqual(primes(EXAMPLE, 0, "1"), ["11?", "1?0", "?11"])
        self.assertEqual(primes(EXAMPLE, 0, "0"), ["00?", "0?0", "?01"])
        self.assertEqual(primes(AND_TABLE, 0, "1"), ["11"])
        self.assertEqual(primes(AND_TABLE, 0, "0"), ["0?", "?0"])
        self.assertEqual(primes((2, ("0", "1", "1", "0")), 0, "1"), ["01", "10"])

    def test_constant_tables(self):
        for n in range(1, 7):
            table = (n, ("01",) * 2 ** n)
            self.assertEqual(primes(table, 0, "0"), ["?" * n])
            self.assertEqual(primes(table, 0, "1"), [])
            self.assertEqual(primes(table, 1, "1"), ["?" * n])
            self.assertEqual(primes(table, 1, "0"), [])

    def test_all_tables_of_two_inputs(self):
        for rows in itertools.product("01", repeat=4):
            for bit in "01":
                self.assertEqual(primes((2, rows), 0, bit), primes_by_definition((2, rows), 0, bit), (rows, bit))

    def test_each_out_and_bit_of_made_tables(self):
        source = random.Random(23)
        for n in (1, 2, 3, 4):
            for _ in range(4):
                table = made_table(source, n, 3)
                for out, bit in itertools.product(range(3), "01"):
                    found = primes(table, out, bit)
                    self.assertEqual(found, primes_by_definition(table, out, bit), (table, out, bit))
                    self.assertEqual(found, sorted(found))

    def test_many_inputs_and_outs(self):
        self.assertEqual(primes((1, ("0" * 32, "0" * 31 + "1")), 31, "1"), ["1"])
        rows = tuple("01"[word.count("1") > 3] for word in settled_words_of(6))
        ones = sorted("".join("1" if at in four else "?" for at in range(6))
                      for four in itertools.combinations(range(6), 4))
        self.assertEqual(primes((6, rows), 0, "1"), ones)

    def test_by_name(self):
        self.assertEqual(primes(bit="0", table=AND_TABLE, out=0), ["0?", "?0"])

    def test_lists_are_new(self):
        first, second = primes(AND_TABLE, 0, "0"), primes(AND_TABLE, 0, "0")
        self.assertIsNot(first, second)
        first.append("x")
        self.assertEqual(primes(AND_TABLE, 0, "0"), ["0?", "?0"])

    def test_wrong_inputs(self):
        table = (1, ("00", "11"))
        for thing in NO_TABLES + odd_things():
            self.assert_raises_just(NoTable, primes, thing, 0, "1")
        for out in NO_OUTS:
            self.assert_raises_just(NoCount, primes, table, out, "1")
        for bit in NO_BITS:
            self.assert_raises_just(NoKind, primes, table, 0, bit)

    def test_the_earliest_argument_counts(self):
        self.assert_raises_just(NoTable, primes, (1, ("0",)), 5, "?")
        self.assert_raises_just(NoTable, primes, (1, ("0",)), 0, "?")
        self.assert_raises_just(NoTable, primes, (1, ("0",)), True, "0")
        for out in NO_OUTS:
            self.assert_raises_just(NoCount, primes, (1, ("00", "11")), out, "?")
        self.assert_raises_just(NoCount, primes, table=(1, ("0", "1")), out=1, bit=None)


class SumNetTest(BitCase):
    def assert_tells_the_sums(self, n, sums):
        net = sum_net(n, sums)
        self.assertIs(is_net(net), True)
        self.assertEqual((net[0], len(net[2])), (n, len(sums)))
        for word in words_of(n):
            self.assertEqual(run(net, word), "".join(sum_by_definition(words, word) for words in sums), (sums, word))

    def test_ordinary_sums(self):
        self.assertEqual(run(sum_net(2, [["10", "01"]]), "?1"), "?")
        self.assertEqual(run(sum_net(2, [["1?", "?1"], ["11"]]), "?1"), "1?")
        self.assert_tells_the_sums(2, [["10", "01"]])
        self.assert_tells_the_sums(3, [["1?0", "?11"], ["11?", "1?0", "?11"], ["000"]])

    def test_sums_are_not_made_sharp(self):
        self.assertEqual(run(sum_net(2, [["1?", "0?"]]), "?0"), "?")
        self.assertEqual(run(sum_net(3, [["1?0", "?11"]]), "11?"), "?")

    def test_all_sums_of_one_input(self):
        for many in range(4):
            for words in itertools.product("01?", repeat=many):
                self.assert_tells_the_sums(1, [list(words)])

    def test_sums_of_no_words(self):
        for n in range(1, 7):
            for word in ("0" * n, "1" * n, "?" * n):
                self.assertEqual(run(sum_net(n, [[]]), word), "0")
                self.assertEqual(run(sum_net(n, [[], ["?" * n], []]), word), "010")

    def test_words_without_settled_bits(self):
        self.assert_tells_the_sums(2, [["??"]])
        self.assert_tells_the_sums(2, [["0?", "??"], ["??", "??"], ["??", "11"]])

    def test_words_twice(self):
        self.assert_tells_the_sums(3, [["0?1", "0?1"], ["0?1", "0?1", "1??"]])

    def test_made_sums(self):
        source = random.Random(24)
        for n in (1, 2, 3, 4):
            for _ in range(8):
                sums = [made_words(source, n, source.randint(0, 6)) for _ in range(source.randint(1, 6))]
                self.assert_tells_the_sums(n, sums)

    def test_many_words(self):
        source = random.Random(25)
        self.assert_tells_the_sums(6, [made_words(source, 6, 200) for _ in range(6)])
        self.assert_tells_the_sums(5, [settled_words_of(5) * 6 + ["10?0?"] * 8])
        self.assert_tells_the_sums(6, [[word] for word in ("101010", "?????1", "0?????", "??????", "11?00?", "00?11?")])

    def test_by_name(self):
        self.assertEqual(run(sum_net(sums=[["1"]], n=1), "1"), "1")

    def test_sums_are_not_changed(self):
        sums = [["10", "?1"], [], ["??"]]
        self.assertEqual(sum_net(2, sums), sum_net(2, sums))
        self.assertEqual(sums, [["10", "?1"], [], ["??"]])

    def test_what_is_no_number_of_inputs(self):
        for n in (0, 7, 8, -1, True, False, None, "1", "", (1,), [1], {}, 10 ** 12, -10 ** 12):
            self.assert_raises_just(NoCount, sum_net, n, [["0"]])
            self.assert_raises_just(NoCount, sum_net, n, [["0" * 7]])
            for sums in NO_SUMS + [[], [["x"]], [("0",)]]:
                self.assert_raises_just(NoCount, sum_net, n, sums)

    def test_sums_that_are_none(self):
        for sums in NO_SUMS:
            self.assert_raises_just(NoSum, sum_net, 1, sums)
            self.assert_raises_just(NoSum, sum_net, 1, [sums])
            self.assert_raises_just(NoSum, sum_net, 1, [["0"], sums])
            self.assert_raises_just(NoSum, sum_net, 1, [sums, ["0"]])

    def test_number_of_sums(self):
        self.assertEqual(run(sum_net(1, [["1"]] * 6), "1"), "1" * 6)
        for many in (0, 7, 8, 100):
            self.assert_raises_just(NoSum, sum_net, 1, [["1"]] * many)

    def test_number_of_words(self):
        self.assertEqual(run(sum_net(1, [["1"] * 200]), "1"), "1")
        self.assertEqual(run(sum_net(2, [["10"] * 199 + ["01"], ["1?"]]), "01"), "10")
        for many in (201, 202, 1000):
            self.assert_raises_just(NoSum, sum_net, 1, [["1"] * many])
            self.assert_raises_just(NoSum, sum_net, 1, [["0"], ["1"] * many])
            self.assert_raises_just(NoSum, sum_net, 1, [["1"] * many, ["0"]])

    def test_words_of_sums(self):
        for thing in NO_WORDS + ["0", "000", "?", "???"]:
            for words in ([thing], [thing, "00"], ["00", thing], ["00", "1?", thing, "01"]):
                self.assert_raises_just(NoSum, sum_net, 2, [words])
                self.assert_raises_just(NoSum, sum_net, 2, [["0?"], words])


class IsSharpSumTest(BitCase):
    def test_worked_sums(self):
        self.assertIs(is_sharp_sum(EXAMPLE, 0, ["1?0", "?11"]), False)
        self.assertIs(is_sharp_sum(EXAMPLE, 0, ["1?0", "?11", "11?"]), True)
        self.assertIs(is_sharp_sum(EXAMPLE, 0, ["11?", "1?0", "?11", "110", "111"]), True)
        self.assertIs(is_sharp_sum(EXAMPLE, 0, ["11?", "1?0", "?11", "000"]), False)
        self.assertIs(is_sharp_sum(EXAMPLE, 0, ["11?", "1?0", "?11", "?1?"]), False)
        self.assertIs(is_sharp_sum(EXAMPLE, 0, []), False)

    def test_constant_outs(self):
        table = (2, ("01",) * 4)
        self.assertIs(is_sharp_sum(table, 0, []), True)
        self.assertIs(is_sharp_sum(table, 0, ["11"]), False)
        self.assertIs(is_sharp_sum(table, 1, ["??"]), True)
        self.assertIs(is_sharp_sum(table, 1, ["0?", "??", "01"]), True)
        self.assertIs(is_sharp_sum(table, 1, ["0?", "1?"]), False)
        self.assertIs(is_sharp_sum(table, 1, []), False)

    def test_all_primes_and_one_left_out(self):
        source = random.Random(26)
        for n in (1, 2, 3, 4):
            table = made_table(source, n, 2)
            for out in (0, 1):
                words = primes_by_definition(table, out, "1")
                self.assertIs(is_sharp_sum(table, out, words), True)
                self.assertIs(is_sharp_sum(table, out, words[::-1]), True)
                self.assertIs(is_sharp_sum(table, out, words + words), True)
                for left_out in words:
                    self.assertIs(is_sharp_sum(table, out, [word for word in words if word != left_out]), False)
                for word in words_of(n):
                    is_sure = sure_by_definition(table, word)[out] == "1"
                    self.assertIs(is_sharp_sum(table, out, words + [word]), is_sure, (table, out, word))
                    self.assertIs(is_sharp_sum(table, out, [word] + words), is_sure, (table, out, word))

    def test_a_sum_of_another_out(self):
        table = (2, ("00", "01", "01", "11"))
        self.assertIs(is_sharp_sum(table, 0, ["11"]), True)
        self.assertIs(is_sharp_sum(table, 1, ["11"]), False)
        self.assertIs(is_sharp_sum(table, 1, ["1?", "?1"]), True)
        self.assertIs(is_sharp_sum(table, 0, ["1?", "?1"]), False)

    def test_it_is_so_exactly_if_its_net_has_the_out_and_is_sharp(self):
        words = words_of(2)
        for rows in itertools.product("01", repeat=4):
            for many in range(4):
                for picked in itertools.combinations(words, many):
                    net = sum_net(2, [list(picked)])
                    expected = table_of(net) == (2, rows) and dull_word(net) is None
                    self.assertIs(is_sharp_sum((2, rows), 0, list(picked)), expected, (rows, picked))

    def test_any_number_of_words(self):
        for many in (199, 200, 201, 1000, 5000):
            self.assertIs(is_sharp_sum(AND_TABLE, 0, ["11"] * many), True)
            self.assertIs(is_sharp_sum(AND_TABLE, 0, ["11"] * many + ["01"]), False)
            self.assertIs(is_sharp_sum((2, ("0", "1", "1", "1")), 0, ["11"] * many), False)
        everything = (5, ("1",) * 32)
        self.assertIs(is_sharp_sum(everything, 0, words_of(5)), True)
        self.assertIs(is_sharp_sum(everything, 0, words_of(5)[:-1]), False)

    def test_many_outs(self):
        table = (1, ("0" * 32, "0" * 31 + "1"))
        self.assertIs(is_sharp_sum(table, 31, ["1"]), True)
        self.assertIs(is_sharp_sum(table, 30, ["1"]), False)

    def test_the_list_is_not_changed(self):
        words = ["?11", "1?0", "11?", "?11"]
        self.assertIs(is_sharp_sum(words=words, out=0, table=EXAMPLE), True)
        self.assertEqual(words, ["?11", "1?0", "11?", "?11"])

    def test_wrong_inputs(self):
        table = (1, ("00", "11"))
        for thing in NO_TABLES + odd_things():
            self.assert_raises_just(NoTable, is_sharp_sum, thing, 0, ["1"])
        for out in NO_OUTS:
            self.assert_raises_just(NoCount, is_sharp_sum, table, out, ["1"])
        for words in NO_SUMS:
            self.assert_raises_just(NoSum, is_sharp_sum, table, 0, words)
        for thing in NO_WORDS + ["00", "??"]:
            for words in ([thing], ["1", thing], [thing, "1"]):
                self.assert_raises_just(NoSum, is_sharp_sum, table, 0, words)

    def test_the_earliest_argument_counts(self):
        self.assert_raises_just(NoTable, is_sharp_sum, (1, ("0",)), 5, ("1",))
        self.assert_raises_just(NoTable, is_sharp_sum, (1, ("0",)), 0, ("1",))
        self.assert_raises_just(NoTable, is_sharp_sum, (1, ("0",)), True, ["1"])
        for out in NO_OUTS:
            self.assert_raises_just(NoCount, is_sharp_sum, (1, ("00", "11")), out, None)
            self.assert_raises_just(NoCount, is_sharp_sum, (1, ("00", "11")), out, ["x"])


class SharpNetTest(BitCase):
    def assert_is_sharp_with(self, net, table):
        self.assertIs(is_net(net), True)
        self.assertEqual(table_of(net), table)
        self.assertIsNone(dull_word(net))

    def test_all_tables_of_two_inputs(self):
        for rows in itertools.product("01", repeat=4):
            self.assert_is_sharp_with(sharp_net((2, rows)), (2, rows))

    def test_what_it_tells_at_wide_words(self):
        net = sharp_net(table=EXAMPLE)
        for word in words_of(3):
            self.assertEqual(run(net, word), sure_by_definition(EXAMPLE, word))

    def test_constant_tables(self):
        for n in range(1, 7):
            table = (n, ("0110",) * 2 ** n)
            self.assert_is_sharp_with(sharp_net(table), table)
            self.assertEqual(run(sharp_net(table), "?" * n), "0110")

    def test_made_tables(self):
        source = random.Random(27)
        for n in range(1, 7):
            for bits in (1, 2, 7, 32):
                table = made_table(source, n, bits)
                self.assert_is_sharp_with(sharp_net(table), table)

    def test_what_is_no_table(self):
        for thing in NO_TABLES + odd_things():
            self.assert_raises_just(NoTable, sharp_net, thing)


class SharpNetsTest(BitCase):
    """Promise [17], as far as it speaks of sharp nets."""

    def test_sharp_nets_with_one_table_tell_the_same(self):
        source = random.Random(28)
        met = 0
        for _ in range(80):
            net = made_net(source, source.randint(1, 3), source.randint(1, 8))
            if dull_word(net) is None:
                met += 1
                sharp = sharp_net(table_of(net))
                self.assertEqual([run(net, word) for word in words_of(net[0])],
                                 [run(sharp, word) for word in words_of(net[0])])
                self.assertIsNone(first_parting(net, sharp))
        self.assertGreater(met, 10)

    def test_no_net_with_the_table_tells_more(self):
        source = random.Random(29)
        for _ in range(80):
            net = made_net(source, source.randint(1, 4), source.randint(1, 15))
            sharp = sharp_net(table_of(net))
            self.assertIsNone(first_duller(sharp, net))
            self.assertEqual(first_duller(net, sharp), dull_word(net))
            for word in words_of(net[0])[::5]:
                self.assertIs(is_within_by_definition(surely(table_of(net), word), run(net, word)), True)

    def test_an_and_or_an_or_of_sharp_ones_need_not_be_sharp(self):
        gates = (("not", 0), ("and", 0, 1), ("or", 0, 1))
        self.assertIsNone(dull_word((1, gates, (0, 1))))
        self.assertEqual(dull_word((1, gates, (2,))), "?")
        self.assertEqual(dull_word((1, gates, (3,))), "?")


if __name__ == "__main__":
    unittest.main()
