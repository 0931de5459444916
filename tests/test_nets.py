"""Promises [1] and [3]: nets."""

import itertools
import random
import unittest

from halfbits.errors import NoMatch, NoNet, NoWord
from halfbits.nets import is_net, run
from tests.support import NO_NETS, BitCase, made_net, odd_things, settlings_by_definition, words_of

AND = {
    "00": "0", "01": "0", "0?": "0",
    "10": "0", "11": "1", "1?": "?",
    "?0": "0", "?1": "?", "??": "?",
}
OR = {
    "00": "0", "01": "1", "0?": "?",
    "10": "1", "11": "1", "1?": "1",
    "?0": "?", "?1": "1", "??": "?",
}
NOT = {"0": "1", "1": "0", "?": "?"}


def one_gate(*gate):
    """A net with two inputs that shows its only gate."""
    return (2, (gate,), (2,))


def told_by_definition(net, number, word):
    """What stands at a number, worked out from it backwards."""
    n, gates, _ = net
    if number < n:
        return word[number]
    kind, *parts = gates[number - n]
    bits = "".join(told_by_definition(net, part, word) for part in parts)
    return {"0": {"": "0"}, "1": {"": "1"}, "not": NOT, "and": AND, "or": OR}[kind][bits]


class IsNetTest(BitCase):
    def test_ordinary_nets(self):
        self.assertIs(is_net((2, (("not", 0), ("or", 0, 2)), (3,))), True)
        self.assertIs(is_net((3, (("and", 0, 2), ("0",), ("1",), ("or", 3, 3)), (6, 0, 6))), True)
        self.assertIs(is_net(thing=(1, (), (0,))), True)

    def test_number_of_inputs(self):
        for n, expected in ((1, True), (2, True), (32, True), (0, False), (33, False), (-1, False), (10 ** 12, False)):
            self.assertIs(is_net((n, (), (0,))), expected, n)
            self.assertIs(is_net((n, (("1",),), (0,))), expected, n)
        for n in (True, False, None, "1", (1,), [1]):
            self.assertIs(is_net((n, (), (0,))), False, n)

    def test_number_of_gates(self):
        self.assertIs(is_net((1, (), (0,))), True)
        self.assertIs(is_net((1, (("0",),), (1,))), True)
        chain = tuple(("not", own - 1) for own in range(1, 100001))
        self.assertIs(is_net((1, chain, (100000,))), True)
        self.assertIs(is_net((1, chain, (100001,))), False)
        self.assertIs(is_net((1, chain + (("0",),), (0,))), False)

    def test_number_of_outs(self):
        for many, expected in ((1, True), (2, True), (32, True), (0, False), (33, False)):
            self.assertIs(is_net((1, (), (0,) * many)), expected, many)
            self.assertIs(is_net((1, (("not", 0),), (1,) * many)), expected, many)

    def test_numbers_of_outs(self):
        for out, expected in ((0, True), (1, True), (2, True), (3, False), (-1, False), (10 ** 12, False),
                              (-10 ** 12, False), (True, False), (False, False), (None, False), ("0", False)):
            self.assertIs(is_net((2, (("0",),), (out,))), expected, out)
            self.assertIs(is_net((2, (("0",),), (0, out))), expected, out)
            self.assertIs(is_net((2, (("0",),), (out, 0))), expected, out)

    def test_numbers_of_gates(self):
        for number, expected in ((0, True), (1, True), (2, True), (3, False), (4, False), (-1, False),
                                 (10 ** 12, False), (True, False), (False, False), (None, False), ("0", False),
                                 ((0,), False), ([], False)):
            for gate in (("not", number), ("and", number, 0), ("and", 0, number), ("or", number, 0),
                         ("or", 0, number), ("and", number, number), ("or", number, number)):
                net = (2, (("0",), gate, ("1",)), (0,))
                self.assertIs(is_net(net), expected, net)

    def test_the_first_gate_reads_inputs_alone(self):
        self.assertIs(is_net((1, (("not", 0),), (1,))), True)
        self.assertIs(is_net((1, (("not", 1),), (1,))), False)
        self.assertIs(is_net((1, (("and", 0, 1),), (1,))), False)

    def test_numbers_of_parts(self):
        good = {("0",), ("1",), ("not", 0), ("and", 0, 1), ("or", 0, 1)}
        for kind, many in itertools.product(("0", "1", "not", "and", "or"), range(5)):
            gate = (kind, *range(many))
            self.assertIs(is_net((5, (gate,), (0,))), gate in good, gate)

    def test_kinds_of_none(self):
        for kind in ("", "xor", "nand", "AND", "Not", "?", "2", "01", "a", "and ", None, True, False, 0, 1, -1,
                     (), ("and",), [], ["and"], {}, {"and": 1}):
            for parts in ((), (0,), (0, 1), (0, 1, 2)):
                self.assertIs(is_net((5, ((kind, *parts),), (0,))), False, (kind, parts))

    def test_gates_that_are_no_tuples(self):
        for gate in (None, True, 0, "0", "1", "not", (), [], ["0"], ["not", 0], {}, {"0": 0}, {"not": 0}):
            self.assertIs(is_net((1, (gate,), (0,))), False, gate)
            self.assertIs(is_net((1, (("0",), gate), (0,))), False, gate)

    def test_other_forms(self):
        for thing in NO_NETS:
            self.assertIs(is_net(thing), False, thing)

    def test_things_of_all_kinds(self):
        for thing in odd_things():
            self.assertIs(is_net(thing), False)

    def test_nets_with_parts_exchanged(self):
        first, second = ("not", 0), ("or", 0, 2)
        for thing in odd_things():
            is_low = type(thing) is int and thing in (0, 1)
            self.assertIs(is_net((thing, (first, ("or", 0, 0)), (0,))), is_low and thing == 1)
            self.assertIs(is_net((2, thing, (0,))), thing == ())
            self.assertIs(is_net((2, (first, second), thing)), thing in ((0,), (1, 2, 3)))
            self.assertIs(is_net((2, (first, thing), (0,))), thing == ("0",))
            self.assertIs(is_net((2, (first, ("or", thing, 2)), (0,))), is_low)
            self.assertIs(is_net((2, (first, second), (0, thing))), is_low)

    def test_nets_turned_round_or_cut(self):
        net = (2, (("not", 0), ("or", 0, 2)), (3,))
        self.assertIs(is_net(net[::-1]), False)
        self.assertIs(is_net(net[:2]), False)
        self.assertIs(is_net(net[1:]), False)
        self.assertIs(is_net(net + net), False)
        self.assertIs(is_net((2, net[1][::-1], (3,))), False)
        self.assertIs(is_net((2, net[1][:1], (3,))), False)
        self.assertIs(is_net((1, net[1], (3,))), False)


class RunTest(BitCase):
    def test_worked_nets(self):
        net = (2, (("not", 0), ("or", 0, 2)), (3,))
        self.assertEqual(run(net, "10"), "1")
        self.assertEqual(run(net, "?0"), "?")

    def test_and(self):
        for word, told in AND.items():
            self.assertEqual(run(one_gate("and", 0, 1), word), told, word)
            self.assertEqual(run(one_gate("and", 1, 0), word), told, word)

    def test_or(self):
        for word, told in OR.items():
            self.assertEqual(run(one_gate("or", 0, 1), word), told, word)
            self.assertEqual(run(one_gate("or", 1, 0), word), told, word)

    def test_not(self):
        for word in words_of(2):
            self.assertEqual(run(one_gate("not", 0), word), NOT[word[0]])
            self.assertEqual(run(one_gate("not", 1), word), NOT[word[1]])

    def test_constants(self):
        for word in words_of(2):
            self.assertEqual(run(one_gate("0"), word), "0")
            self.assertEqual(run(one_gate("1"), word), "1")

    def test_the_same_number_twice(self):
        for word in words_of(2):
            self.assertEqual(run(one_gate("and", 1, 1), word), word[1])
            self.assertEqual(run(one_gate("or", 0, 0), word), word[0])

    def test_an_open_bit_and_its_contrary(self):
        self.assertEqual(run((1, (("not", 0), ("and", 0, 1), ("or", 0, 1)), (2, 3)), "?"), "??")

    def test_outs(self):
        gates = (("not", 0), ("and", 1, 2))
        self.assertEqual(run((2, gates, (0, 1)), "0?"), "0?")
        self.assertEqual(run((2, gates, (1, 0)), "0?"), "?0")
        self.assertEqual(run((2, gates, (2, 3)), "01"), "11")
        self.assertEqual(run((2, gates, (3, 2, 0, 3, 3)), "0?"), "?10??")
        self.assertEqual(run((2, gates, (1, 1)), "01"), "11")
        self.assertEqual(run((1, (), (0,) * 32), "?"), "?" * 32)

    def test_greatest_numbers(self):
        word = "01?" * 10 + "1?"
        self.assertEqual(run((32, (), tuple(range(32))), word), word)
        self.assertEqual(run((32, (), tuple(range(31, -1, -1))), word), word[::-1])
        chain = tuple(("not", own - 1) for own in range(1, 100001))
        for bit in "01?":
            self.assertEqual(run((1, chain, (99999, 100000)), bit), NOT[bit] + bit)

    def test_made_nets_tell_what_the_definition_says(self):
        source = random.Random(3)
        for _ in range(60):
            net = made_net(source, source.randint(1, 4), source.randint(0, 9))
            self.assertIs(is_net(net), True)
            for word in words_of(net[0]):
                told = "".join(told_by_definition(net, out, word) for out in net[2])
                self.assertEqual(run(net, word), told, (net, word))

    def test_more_settled_words_give_more_settled_answers(self):
        source = random.Random(5)
        for _ in range(30):
            net = made_net(source, source.randint(1, 3), source.randint(1, 12))
            for word, other in itertools.product(words_of(net[0]), repeat=2):
                if set(settlings_by_definition(word)) <= set(settlings_by_definition(other)):
                    told, wider = run(net, word), run(net, other)
                    self.assertTrue(all(sign in ("?", bit) for bit, sign in zip(told, wider)), (net, word, other))

    def test_equal_answers_for_equal_arguments(self):
        net = (2, (("not", 0), ("or", 0, 2)), (3, 1))
        self.assertEqual([run(net, "?1"), run(word="?1", net=net)], ["?1", "?1"])
        self.assertEqual(net, (2, (("not", 0), ("or", 0, 2)), (3, 1)))

    def test_what_is_no_net(self):
        for thing in NO_NETS + odd_things():
            self.assert_raises_just(NoNet, run, thing, "0")

    def test_what_is_no_word(self):
        for thing in (None, True, 0, 1, "", "x", "0x", "0" * 33, ("0",), ["0"], {}, ()):
            self.assert_raises_just(NoWord, run, (1, (), (0,)), thing)

    def test_another_number_of_bits(self):
        for n, word in ((1, "00"), (2, "0"), (2, "???"), (32, "0" * 31), (31, "0" * 32)):
            self.assert_raises_just(NoMatch, run, (n, (), (0,)), word)

    def test_the_fault_of_the_net_comes_first(self):
        for word in ("x", None, "", "000"):
            self.assert_raises_just(NoNet, run, (1, (), (1,)), word)
            self.assert_raises_just(NoNet, run, [1, (), (0,)], word)
        self.assert_raises_just(NoNet, run, word="000", net=(True, (), (0,)))


if __name__ == "__main__":
    unittest.main()
