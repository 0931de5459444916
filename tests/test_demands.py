"""Promises [1], [8] and [9]: demands and picks, and what of [17] speaks of them."""

import itertools
import random
import unittest

from halfbits.demands import first_missed, is_demand, picked_net, picks_of
from halfbits.errors import NoDemand, NoMatch, NoNet, NoPicks
from halfbits.nets import is_net, run
from halfbits.tellings import net_of
from tests.support import (
    NO_DEMANDS, NO_NETS, NO_WORDS, BitCase, demand_with, is_within_by_definition, made_net, made_telling, meet,
    odd_things, settlings_by_definition, signs_exchanged, words_of,
)

CLOSED = (1, 1, (("?", ("0", "1")), ("0", ("0",)), ("1", ("1",))))
OPEN = (1, 1, (("?", ("0", "?")), ("0", ("0",)), ("1", ("1",))))


def made_demand(source, n, m, wishes, lets):
    """A demand with so many wishes, of at most so many lets each, picked by a source of numbers."""
    words = source.sample(words_of(n), min(wishes, 3 ** n))
    return (n, m, tuple(
        (word, tuple(source.sample(words_of(m), source.randint(1, min(lets, 3 ** m))))) for word in words
    ))


def made_demands(seed, many):
    """Small demands whose picks can be searched for plainly."""
    source = random.Random(seed)
    for _ in range(many):
        yield made_demand(source, source.randint(1, 3), source.randint(1, 3), source.randint(1, 6), 3)


def first_missed_by_definition(demand, net):
    """The number of the first wish at whose word what is told is within none of its lets."""
    for number, (word, lets) in enumerate(demand[2]):
        if not any(is_within_by_definition(run(net, word), let) for let in lets):
            return number
    return None


def are_picks_by_definition(demand, numbers):
    """Whether the lets with such numbers have a common settling where their wishes' words have one."""
    picked = [(word, lets[number]) for (word, lets), number in zip(demand[2], numbers)]
    return all(
        meet(let, other_let)
        for (word, let), (other, other_let) in itertools.combinations(picked, 2)
        if meet(word, other)
    )


def all_picks(demand):
    """All picks, ascending, out of all rows of numbers."""
    rows = itertools.product(*[range(len(lets)) for _, lets in demand[2]])
    return [numbers for numbers in rows if are_picks_by_definition(demand, numbers)]


def first_picks_in_turn(demand):
    """The first picks, ascending: each wish takes its first let that goes with the earlier ones, else steps back."""
    def with_next(numbers):
        if len(numbers) == len(demand[2]):
            return numbers
        for number in range(len(demand[2][len(numbers)][1])):
            if are_picks_by_definition(demand, numbers + (number,)):
                found = with_next(numbers + (number,))
                if found is not None:
                    return found
        return None
    return with_next(())


def wide_demands(seed, many):
    """Demands whose wishes have many words in common, and lets of which each goes with many others."""
    source = random.Random(seed)
    for _ in range(many):
        n, m = source.randint(3, 4), source.randint(2, 3)
        words = [word for word in words_of(n) if word.count("?") >= n - 2]
        settled = source.randint(1, 2)
        lets = [let for let in words_of(m) if m - let.count("?") == settled]
        yield (n, m, tuple(
            (word, tuple(source.sample(lets, source.randint(2, min(6, len(lets))))))
            for word in source.sample(words, source.randint(4, 9))
        ))


class IsDemandTest(BitCase):
    def test_ordinary_demands(self):
        for demand in (CLOSED, OPEN, (1, 1, (("?", ("?",)),)), (2, 3, (("?1", ("0?1", "111")), ("00", ("???",))))):
            self.assertIs(is_demand(demand), True)
        self.assertIs(is_demand(thing=CLOSED), True)

    def test_numbers_of_inputs_and_outs(self):
        for n, m in itertools.product(range(7), repeat=2):
            demand = (n, m, (("?" * n, ("0" * m,)),))
            self.assertIs(is_demand(demand), 1 <= n <= 4 and 1 <= m <= 3, demand)
        for number in (True, False, None, "1", -1, 10 ** 12, (1,), [1], {}):
            self.assertIs(is_demand((number, 1, (("0", ("0",)),))), False)
            self.assertIs(is_demand((1, number, (("0", ("0",)),))), False)

    def test_number_of_wishes(self):
        wishes = tuple((word, ("0",)) for word in words_of(4))
        for many, expected in ((0, False), (1, True), (2, True), (26, True), (27, True), (28, False), (81, False)):
            self.assertIs(is_demand((4, 1, wishes[:many])), expected, many)
            self.assertIs(is_demand((4, 1, wishes[81 - many:])), expected, many)
        self.assertIs(is_demand((3, 1, tuple((word, ("0",)) for word in words_of(3)))), True)

    def test_words_twice(self):
        wish, other = ("0?", ("0",)), ("?0", ("0",))
        self.assertIs(is_demand((2, 1, (wish, other))), True)
        self.assertIs(is_demand((2, 1, (wish, wish))), False)
        self.assertIs(is_demand((2, 1, (wish, other, ("0?", ("1",))))), False)
        self.assertIs(is_demand((2, 1, (other, wish, ("0?", ("0",)), ("11", ("1",))))), False)

    def test_words_of_other_numbers_of_bits(self):
        for word in ("0", "000", "?", "???", "0" * 32):
            self.assertIs(is_demand((2, 1, ((word, ("0",)),))), False)
            self.assertIs(is_demand((2, 1, (("00", ("0",)), (word, ("0",))))), False)

    def test_number_of_lets(self):
        for many in range(10):
            self.assertIs(is_demand((1, 2, (("0", tuple(words_of(2)[:many])),))), 1 <= many <= 8, many)
            self.assertIs(is_demand((1, 2, (("1", ("00",)), ("0", tuple(words_of(2)[:many]))))), 1 <= many <= 8, many)
        self.assertIs(is_demand((1, 3, (("0", tuple(words_of(3)[:9])),))), False)
        self.assertIs(is_demand((1, 3, (("0", tuple(words_of(3))),))), False)

    def test_lets_twice(self):
        self.assertIs(is_demand((1, 1, (("0", ("0", "1", "?")),))), True)
        for lets in (("0", "0"), ("0", "1", "0"), ("?", "1", "1"), ("0",) * 8):
            self.assertIs(is_demand((1, 1, (("0", lets),))), False)
            self.assertIs(is_demand((1, 1, (("1", ("1",)), ("0", lets)))), False)

    def test_lets_of_other_numbers_of_bits(self):
        for let in ("0", "000", "?", "???", "0" * 32):
            for lets in ((let,), ("00", let), (let, "0?")):
                self.assertIs(is_demand((1, 2, (("0", lets),))), False)

    def test_words_and_lets_that_are_no_words(self):
        for thing in NO_WORDS:
            self.assertIs(is_demand((1, 1, ((thing, ("0",)),))), False)
            self.assertIs(is_demand((1, 1, (("0", thing),))), thing == ("0",) or thing == ("0", "1"))
            self.assertIs(is_demand((1, 1, (("0", (thing,)),))), False)
            self.assertIs(is_demand((1, 1, (("0", ("1", thing)),))), False)

    def test_other_things(self):
        for thing in NO_DEMANDS + NO_NETS + odd_things():
            self.assertIs(is_demand(thing), False, thing)

    def test_demands_with_parts_exchanged(self):
        wish = ("0", ("0", "1"))
        for thing in odd_things():
            is_one = type(thing) is int and thing == 1
            self.assertIs(is_demand((thing, 1, (wish,))), is_one)
            self.assertIs(is_demand((1, thing, (wish,))), is_one)
            self.assertIs(is_demand((1, 1, thing)), False)
            self.assertIs(is_demand((1, 1, (thing,))), False)
            self.assertIs(is_demand((1, 1, (wish, thing))), False)
            self.assertIs(is_demand((1, 1, ((thing, ("0", "1")),))), False)
            self.assertIs(is_demand((1, 1, (("0", thing),))), thing in (("0",), ("0", "1")))
        for thing in (CLOSED[::-1], CLOSED[:2], CLOSED[1:], CLOSED + CLOSED, (1, 1, CLOSED), (2, 1, CLOSED[2])):
            self.assertIs(is_demand(thing), False)


class FirstMissedTest(BitCase):
    def test_worked_demands(self):
        self.assertEqual(first_missed(CLOSED, (1, (), (0,))), 0)
        self.assertIsNone(first_missed(OPEN, (1, (), (0,))))
        self.assertEqual(first_missed(OPEN, (1, (("not", 0),), (1,))), 1)
        self.assertEqual(first_missed(OPEN, (1, (("0",),), (1,))), 2)
        self.assertEqual(first_missed(net=(1, (("1",),), (1,)), demand=OPEN), 1)

    def test_a_let_that_is_kept_to(self):
        net = (2, (), (0, 1))
        for lets in (("0?",), ("??",), ("11", "0?"), ("1?", "??"), ("00", "01", "0?")):
            self.assertIsNone(first_missed((2, 2, (("0?", lets),)), net), lets)
        for lets in (("01",), ("01", "0?"), ("?1", "11"), ("00", "?1")):
            self.assertIsNone(first_missed((2, 2, (("01", lets),)), net), lets)

    def test_settlings_within_lets_are_not_enough(self):
        net = (2, (), (0, 1))
        for lets in (("00", "01"), ("?0", "?1"), ("00", "01", "1?"), ("?0", "01"), ("00", "?1", "10", "11")):
            self.assertEqual(first_missed((2, 2, (("0?", lets),)), net), 0, lets)
        self.assertEqual(first_missed((1, 1, (("?", ("0", "1")),)), (1, (), (0,))), 0)

    def test_the_first_of_several_wishes(self):
        net = (2, (("and", 0, 1),), (2,))
        demand = (2, 1, (("11", ("1",)), ("??", ("0", "1")), ("00", ("1",)), ("1?", ("?",)), ("10", ("1", "?"))))
        self.assertEqual(first_missed(demand, net), 1)
        self.assertEqual(first_missed((2, 1, demand[2][::-1]), net), 2)
        self.assertEqual(first_missed((2, 1, demand[2][3:]), net), None)
        self.assertEqual(first_missed((2, 1, demand[2][2:]), net), 0)

    def test_made_demands(self):
        source = random.Random(40)
        found = set()
        for demand in made_demands(41, 150):
            n, gates, _ = made_net(source, demand[0], source.randint(1, 8))
            net = (n, gates, tuple(source.randrange(n + len(gates)) for _ in range(demand[1])))
            self.assertEqual(first_missed(demand, net), first_missed_by_definition(demand, net), (demand, net))
            found.add(first_missed(demand, net))
        self.assertLessEqual({None, 0, 1, 2}, found)

    def test_what_is_no_demand(self):
        for thing in NO_DEMANDS + odd_things():
            self.assert_raises_just(NoDemand, first_missed, thing, (1, (), (0,)))
            self.assert_raises_just(NoDemand, first_missed, thing, (1, (), (1,)))

    def test_what_is_no_net(self):
        for thing in NO_NETS + odd_things():
            self.assert_raises_just(NoNet, first_missed, CLOSED, thing)

    def test_other_numbers_of_inputs_or_outs(self):
        demand = (2, 2, (("0?", ("00",)),))
        for net in ((1, (), (0, 0)), (3, (), (0, 1)), (2, (), (0,)), (2, (), (0, 1, 0)), (32, (), (0,) * 32)):
            self.assert_raises_just(NoMatch, first_missed, demand, net)


class PicksOfTest(BitCase):
    def test_worked_demands(self):
        self.assertIsNone(picks_of(CLOSED))
        self.assertEqual(picks_of(demand=OPEN), (1, 0, 0))
        self.assertEqual(picks_of((1, 1, (("0", ("1", "0")), ("1", ("0", "1"))))), (0, 0))
        self.assertEqual(picks_of((1, 2, (("0", ("00",)), ("1", ("11",)), ("?", ("0?", "?1"))))), None)
        self.assertEqual(picks_of((2, 1, (("0?", ("0", "1")), ("?0", ("1",))))), (1, 0))

    def test_the_first_of_several(self):
        self.assertEqual(picks_of((1, 1, (("0", ("0", "1")), ("?", ("1", "0")), ("1", ("1", "0"))))), (0, 1, 1))
        self.assertEqual(picks_of((1, 1, (("?", ("1", "0")), ("0", ("0", "1")), ("1", ("1", "0"))))), (0, 1, 0))

    def test_made_demands(self):
        found = []
        for demand in made_demands(42, 250):
            picks = all_picks(demand)
            self.assertEqual(picks_of(demand), picks[0] if picks else None, demand)
            found.append(bool(picks) and sum(picks[0]) > 0)
            found.append(None if not picks else 0)
        self.assertLessEqual({None, 0, True}, set(found))

    def test_made_demands_with_many_lets(self):
        source = random.Random(43)
        for _ in range(40):
            demand = made_demand(source, 2, source.randint(2, 3), 4, 8)
            picks = all_picks(demand)
            self.assertEqual(picks_of(demand), picks[0] if picks else None, demand)

    def test_made_demands_that_ask_for_a_search(self):
        found = set()
        for demand in wide_demands(62, 200):
            picks = first_picks_in_turn(demand)
            self.assertEqual(picks_of(demand), picks, demand)
            found.add(picks is None)
        self.assertEqual(found, {True, False})

    def test_one_wish(self):
        for word in words_of(2):
            self.assertEqual(picks_of((2, 3, ((word, ("0?1", "111")),))), (0,))

    def test_wishes_without_common_settlings(self):
        lets = tuple(words_of(2)[:8])
        self.assertEqual(picks_of((4, 2, tuple((word[:3] + "0", lets) for word in words_of(3)))), (0,) * 27)
        self.assertEqual(picks_of((3, 2, tuple((word, lets) for word in ("000", "01?", "10?", "110")))), (0,) * 4)

    def test_greatest_demands(self):
        source = random.Random(44)
        for lets in (2, 3, 4, 8):
            for _ in range(6):
                demand = made_demand(source, 4, 3, 27, lets)
                self.assertIs(is_demand(demand), True)
                picks = picks_of(demand)
                if picks is not None:
                    self.assertIs(are_picks_by_definition(demand, picks), True)
                    self.assertIsNone(first_missed(demand, picked_net(demand, picks)))

    def test_a_closed_ring_beside_many_free_wishes(self):
        # Each two of these wishes have lets that fit, but around the ring of four words no picks close.
        ring = (("000?", ("0?", "1?")), ("00?1", ("0?", "1?")), ("001?", ("0?", "1?")), ("00?0", ("?0", "?1")))
        ends = (("0000", ("00", "11")), ("0010", ("01", "10")))
        free = tuple(("1" + word, tuple(words_of(2)[:8])) for word in words_of(3)[:21])
        self.assertEqual(all_picks((4, 2, ring + ends)), [])
        for wishes in (ring + ends, free + ring + ends, ring + free + ends, ends + ring + free):
            self.assertIsNone(picks_of((4, 2, wishes)))
        for end in ends:
            picks = picks_of((4, 2, free + ring + (end,)))
            self.assertEqual(picks, picks_of((4, 2, free)) + all_picks((4, 2, ring + (end,)))[0])

    def test_what_is_no_demand(self):
        for thing in NO_DEMANDS + odd_things():
            self.assert_raises_just(NoDemand, picks_of, thing)

    def test_there_are_picks_exactly_if_a_net_meets_the_demand(self):
        nets = [
            net for net in (net_of((1, rows)) for rows in itertools.product("01?", repeat=3)) if net is not None
        ]
        self.assertEqual(len(nets), 6)
        choices = [lets for many in range(4) for lets in itertools.combinations("01?", many)]
        for three in itertools.product(choices, repeat=3):
            wishes = tuple((word, lets) for word, lets in zip("01?", three) if lets)
            if wishes:
                demand = (1, 1, wishes)
                is_met = any(first_missed(demand, net) is None for net in nets)
                self.assertIs(picks_of(demand) is not None, is_met, demand)


class PickedNetTest(BitCase):
    def assert_tells_the_picked_lets(self, demand, picks):
        net = picked_net(demand, picks)
        self.assertIs(is_net(net), True)
        self.assertEqual((net[0], len(net[2])), demand[:2])
        for (word, lets), number in zip(demand[2], picks):
            self.assertIs(is_within_by_definition(run(net, word), lets[number]), True, (demand, picks, word))
        self.assertIsNone(first_missed(demand, net))

    def test_worked_demands(self):
        self.assert_tells_the_picked_lets(OPEN, (1, 0, 0))
        self.assertEqual(run(picked_net(OPEN, (1, 0, 0)), "0"), "0")
        self.assertEqual(run(picked_net(demand=OPEN, picks=(1, 0, 0)), "1"), "1")

    def test_each_picks_of_made_demands(self):
        many = 0
        for demand in made_demands(45, 120):
            for picks in all_picks(demand)[:40]:
                many += 1
                self.assert_tells_the_picked_lets(demand, picks)
        self.assertGreater(many, 200)

    def test_what_is_no_demand(self):
        for thing in NO_DEMANDS + odd_things():
            self.assert_raises_just(NoDemand, picked_net, thing, (0,))
            self.assert_raises_just(NoDemand, picked_net, thing, None)

    def test_tuples_of_another_length(self):
        for picks in ((), (1,), (1, 0), (1, 0, 0, 0), (1, 0, 0) * 1000):
            self.assert_raises_just(NoPicks, picked_net, OPEN, picks)

    def test_numbers_that_are_no_lets(self):
        for number in (2, 3, -1, -2, 10 ** 12, -10 ** 12, None, "1", "?", (1,), [], {}, True, False):
            self.assert_raises_just(NoPicks, picked_net, OPEN, (number, 0, 0))
        for number in (1, -1, None, "0", False, (0,), [0]):
            self.assert_raises_just(NoPicks, picked_net, OPEN, (1, number, 0))
            self.assert_raises_just(NoPicks, picked_net, OPEN, (1, 0, number))
        for number in (8, True, -1):
            self.assert_raises_just(NoPicks, picked_net, (1, 2, (("0", tuple(words_of(2)[:8])),)), (number,))

    def test_other_things(self):
        for picks in [[1, 0, 0], None, True, 1, "100", {0: 1, 1: 0, 2: 0}] + odd_things():
            self.assert_raises_just(NoPicks, picked_net, OPEN, picks)

    def test_lets_without_a_common_settling(self):
        self.assert_raises_just(NoPicks, picked_net, OPEN, (0, 0, 0))
        self.assert_raises_just(NoPicks, picked_net, CLOSED, (0, 0, 0))
        self.assert_raises_just(NoPicks, picked_net, CLOSED, (1, 0, 0))
        demand = (2, 2, (("0?", ("0?", "10")), ("11", ("11",)), ("?0", ("?1", "01"))))
        self.assert_tells_the_picked_lets(demand, (0, 0, 0))
        self.assert_tells_the_picked_lets(demand, (0, 0, 1))
        self.assert_raises_just(NoPicks, picked_net, demand, (1, 0, 0))
        self.assert_raises_just(NoPicks, picked_net, demand, (1, 0, 1))

    def test_all_rows_of_numbers(self):
        for demand in made_demands(46, 40):
            picks = set(all_picks(demand))
            for numbers in itertools.product(*[range(len(lets)) for _, lets in demand[2]]):
                if numbers not in picks:
                    self.assert_raises_just(NoPicks, picked_net, demand, numbers)


class DemandsTest(BitCase):
    """Promise [17], as far as it speaks of demands."""

    def test_demands_without_alternatives(self):
        source = random.Random(47)
        found = set()
        for _ in range(150):
            demand = made_demand(source, source.randint(1, 3), source.randint(1, 2), source.randint(1, 4), 1)
            expected = are_picks_by_definition(demand, (0,) * len(demand[2]))
            self.assertEqual(picks_of(demand), (0,) * len(demand[2]) if expected else None, demand)
            if expected:
                self.assertIsNone(first_missed(demand, picked_net(demand, picks_of(demand))))
            found.add(expected)
        self.assertEqual(found, {True, False})

    def test_no_net_meets_lets_without_a_common_settling(self):
        source = random.Random(48)
        demand = (2, 1, (("0?", ("0",)), ("?1", ("1",))))
        self.assertIsNone(picks_of(demand))
        for _ in range(100):
            self.assertIsNotNone(first_missed(demand, net_of(made_telling(source, 2, 1))))

    def test_inputs_or_outs_exchanged(self):
        for demand in made_demands(49, 80):
            self.assertEqual(picks_of(demand_with(demand, lambda word: word[::-1], str)), picks_of(demand))
            self.assertEqual(picks_of(demand_with(demand, str, lambda let: let[::-1])), picks_of(demand))

    def test_signs_exchanged(self):
        for demand in made_demands(50, 60):
            for at in range(demand[0]):
                exchanged = demand_with(demand, lambda word: signs_exchanged(word, at), str)
                self.assertEqual(picks_of(exchanged), picks_of(demand))
            for at in range(demand[1]):
                exchanged = demand_with(demand, str, lambda let: signs_exchanged(let, at))
                self.assertEqual(picks_of(exchanged), picks_of(demand))

    def test_nets_exchanged_with_their_demands(self):
        source = random.Random(51)
        for demand in made_demands(52, 60):
            n, gates, _ = made_net(source, demand[0], source.randint(1, 8))
            outs = tuple(source.randrange(n + len(gates)) for _ in range(demand[1]))
            missed = first_missed(demand, (n, gates, outs))
            turned = demand_with(demand, str, lambda let: let[::-1])
            self.assertEqual(first_missed(turned, (n, gates, outs[::-1])), missed)
            contrary = demand_with(demand, str, lambda let: signs_exchanged(let, 0))
            net = (n, gates + (("not", outs[0]),), (n + len(gates), *outs[1:]))
            self.assertEqual(first_missed(contrary, net), missed)

    def test_one_wish_more_never_makes_picks(self):
        for demand in made_demands(53, 60):
            n, m, wishes = demand
            if len(wishes) > 1 and picks_of((n, m, wishes[1:])) is None:
                self.assertIsNone(picks_of(demand))

    def test_support_agrees_with_the_words(self):
        self.assertIs(meet("0?", "?1"), True)
        self.assertIs(meet("0?", "1?"), False)
        self.assertEqual(settlings_by_definition("?0"), ["00", "10"])


if __name__ == "__main__":
    unittest.main()
