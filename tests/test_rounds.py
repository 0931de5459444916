"""Promises [1] and [11]: outlines, and what of [17] speaks of them."""

import itertools
import random
import unittest

from halfbits.codes import conversion, reflected
from halfbits.demands import picks_of
from halfbits.errors import NoCount, NoDemand
from halfbits.refusals import refusal_of
from halfbits.rounds import least_rounds, outlines_of, plan_of, shows_outlines
from halfbits.stores import first_failing, is_plan
from tests.halves import (
    LONG, NO_COUNTS_OF_ROUNDS, NO_HALF_DEMANDS, RING, SECOND, TWO_DEEP, all_outlines, half_words_of,
    has_outlines_by_definition, least_by_definition, made_half_demand, made_tight_demand, variants,
)
from tests.support import (
    NO_DEMANDS, BitCase, demand_with, nested, odd_things, settled_words_of, signs_exchanged, words_of,
)

STEPPED = (1, 2, (("0", ("00",)), ("1", ("11",)), ("?", ("0?", "?1"))))
WALKED = ((("0", "00"), ("1", "11")), (("00", "01", "11"),))
CLOSED = (1, 1, (("0", ("0",)), ("1", ("1",)), ("?", ("0", "1"))))


def made_demands(seed, many, outs=2):
    """Small half demands, for which all rows of outputs can be gone through."""
    source = random.Random(seed)
    for turn in range(many):
        n, m = source.randint(1, 2), source.randint(1, outs)
        if turn % 2:
            yield made_tight_demand(source, n, m)
        else:
            yield made_half_demand(source, n, m, source.randint(1, 8), source.randint(1, 4))


def real_demands(demands):
    """Those that have wishes."""
    return [demand for demand in demands if demand[2]]


def greatest_demands(seed, many):
    """Half demands of three inputs and three outs, with a wish at each word, of up to 8 lets."""
    source = random.Random(seed)
    for least, most in ((8, 8), (5, 8), (2, 6), (1, 2)):
        for _ in range(many):
            yield (3, 3, tuple(
                (word, tuple(source.sample(words_of(3), source.randint(least, most)))) for word in half_words_of(3)
            ))


class ShowsOutlinesTest(BitCase):
    def test_worked_outlines(self):
        self.assertIs(shows_outlines(STEPPED, 2, WALKED), True)
        self.assertIs(shows_outlines(STEPPED, 1, WALKED), False)
        self.assertIs(shows_outlines(thing=WALKED, r=8, demand=STEPPED), True)

    def test_walks_that_stand_still(self):
        for walk in (("00", "00", "01", "11"), ("00", "01", "01", "11"), ("00", "01", "11", "11")):
            self.assertIs(shows_outlines(STEPPED, 3, (WALKED[0], (walk,))), True)
            self.assertIs(shows_outlines(STEPPED, 2, (WALKED[0], (walk,))), False)
        walk = ("00",) * 7 + ("01", "11")
        self.assertIs(shows_outlines(STEPPED, 8, (WALKED[0], (walk,))), True)
        self.assertIs(shows_outlines(STEPPED, 7, (WALKED[0], (walk,))), False)
        self.assertIs(shows_outlines(STEPPED, 8, (WALKED[0], (("00",) + walk,))), False)
        still = (1, 1, (("?", ("0", "1")),))
        self.assertIs(shows_outlines(still, 1, ((("0", "1"), ("1", "1")), (("1",),))), True)
        self.assertIs(shows_outlines(still, 1, ((("0", "1"), ("1", "1")), (("1", "1"),))), True)
        self.assertIs(shows_outlines(still, 1, ((("0", "1"), ("1", "1")), (("1", "1", "1"),))), False)
        self.assertIs(shows_outlines(still, 1, ((("0", "1"), ("1", "1")), ((),))), False)
        self.assertIs(shows_outlines(still, 1, ((("0", "1"), ("1", "0")), (("1", "0"),))), False)

    def test_walks_there_and_back(self):
        walk = ("00", "01", "00", "01", "11")
        self.assertIs(shows_outlines(STEPPED, 4, (WALKED[0], (walk,))), True)
        self.assertIs(shows_outlines(STEPPED, 3, (WALKED[0], (walk,))), False)

    def test_joins_that_do_not_keep_to_the_lets(self):
        for walk in (("00", "11"), ("00", "10", "11"), ("00", "00", "11", "11")):
            self.assertIs(shows_outlines(STEPPED, 8, (WALKED[0], (walk,))), False)
        settled = (1, 2, STEPPED[2][:2] + (("?", ("00", "01", "11")),))
        self.assertIs(shows_outlines(settled, 2, WALKED), False)
        open_let = (1, 2, STEPPED[2][:2] + (("?", ("00", "??")),))
        for walk in (("00", "11"), ("00", "10", "11"), ("00", "01", "11")):
            self.assertIs(shows_outlines(open_let, 2, (WALKED[0], (walk,))), True)

    def test_outputs_at_the_words_of_wishes(self):
        demand = (1, 2, (("0", ("0?", "10")), ("?", ("??",))))
        for first, last in itertools.product(settled_words_of(2), repeat=2):
            thing = ((("0", first), ("1", last)), ((first, last),))
            self.assertIs(shows_outlines(demand, 1, thing), first != "11")
        self.assertIs(shows_outlines(demand, 1, ((("0", "0?"), ("1", "00")), (("0?", "00"),))), False)

    def test_walks_from_and_to_other_outputs(self):
        demand = (2, 1, (("0?", ("?",)), ("?1", ("0", "1"))))
        outputs = (("00", "0"), ("01", "1"), ("11", "1"))
        self.assertIs(shows_outlines(demand, 1, (outputs, (("0", "1"), ("1", "1")))), True)
        for walks in ((("1", "0"), ("1", "1")), (("0", "0"), ("1", "1")), (("1", "1"), ("1", "1")),
                      (("0", "1"), ("0",)), (("1", "1"), ("0", "1")), (("0", "1"),), (("0", "1"), ("1", "1"), ("1",))):
            self.assertIs(shows_outlines(demand, 1, (outputs, walks)), False)

    def test_against_all_outlines(self):
        seen = 0
        for demand in real_demands(made_demands(80, 60, outs=1)):
            for r in (1, 2):
                shown = all_outlines(demand, r)
                longer = all_outlines(demand, r + 1)
                for thing in longer[:: max(1, len(longer) // 20)]:
                    self.assertIs(shows_outlines(demand, r, thing), thing in shown)
                for thing in shown[:: max(1, len(shown) // 3)]:
                    self.assertIs(shows_outlines(demand, r, thing), True, (demand, r, thing))
                    for other in variants(thing):
                        seen += 1
                        self.assertIs(shows_outlines(demand, r, other), other in shown, (demand, r, other))
        self.assertGreater(seen, 5000)

    def test_told_outlines_with_a_part_changed(self):
        for demand, r in ((STEPPED, 2), (LONG, 7), (conversion(("00", "01", "10", "11"), reflected(2)), 2)):
            outlines = outlines_of(demand, r)
            self.assertIs(shows_outlines(demand, r, outlines), True)
            shown = all_outlines(demand, r) if demand != LONG else [outlines]
            for other in variants(outlines):
                self.assertIs(shows_outlines(demand, r, other), other in shown, other)

    def test_without_words_with_an_open_bit(self):
        demand = (2, 1, (("01", ("1",)), ("10", ("0", "1"))))
        self.assertIs(shows_outlines(demand, 1, ((("01", "1"), ("10", "0")), ())), True)
        self.assertIs(shows_outlines(demand, 1, ((("10", "0"), ("01", "1")), ())), False)
        self.assertIs(shows_outlines(demand, 1, ((("01", "1"), ("10", "0")), ((),))), False)
        self.assertIs(shows_outlines(demand, 1, ((("01", "1"),), ())), False)
        self.assertIs(shows_outlines(demand, 1, ((("00", "1"), ("01", "1"), ("10", "0")), ())), False)

    def test_other_things(self):
        things = odd_things() + [nested(tuple, 5000), (WALKED[0], nested(tuple, 5000)), (nested(tuple, 5000), WALKED[1])]
        for thing in things:
            self.assertIs(shows_outlines(STEPPED, 2, thing), False)
            for other in ((thing, WALKED[1]), (WALKED[0], thing), (WALKED[0], (thing,)), WALKED + (thing,),
                          ((thing, ("1", "11")), WALKED[1]), ((("0", thing), ("1", "11")), WALKED[1]),
                          (((thing, "00"), ("1", "11")), WALKED[1]), (WALKED[0], (("00", thing, "11"),))):
                self.assertIs(shows_outlines(STEPPED, 2, other), False)

    def test_wrong_demands_and_counts(self):
        for demand in NO_DEMANDS + NO_HALF_DEMANDS + odd_things():
            for r in (1, 0, True):
                self.assert_raises_just(NoDemand, shows_outlines, demand, r, WALKED)
        for r in NO_COUNTS_OF_ROUNDS:
            self.assert_raises_just(NoCount, shows_outlines, STEPPED, r, WALKED)
            self.assert_raises_just(NoCount, shows_outlines, STEPPED, r, None)


class OutlinesOfTest(BitCase):
    def test_worked_demand(self):
        self.assertIsNone(outlines_of(STEPPED, 1))
        self.assertEqual(outlines_of(STEPPED, 2), WALKED)
        self.assertIs(shows_outlines(STEPPED, 5, outlines_of(r=5, demand=STEPPED)), True)
        for r in range(1, 9):
            self.assertIsNone(outlines_of(CLOSED, r))
            self.assertIsNone(outlines_of(RING, r))
            self.assertIsNone(outlines_of(TWO_DEEP, 1))

    def test_made_demands(self):
        found = {}
        for demand in real_demands(made_demands(81, 200)):
            for r in (1, 2, 3):
                expected = has_outlines_by_definition(demand, r)
                outlines = outlines_of(demand, r)
                self.assertIs(outlines is not None, expected, (demand, r))
                if expected:
                    self.assertIs(shows_outlines(demand, r, outlines), True, (demand, r))
                found[(r, expected)] = found.get((r, expected), 0) + 1
        self.assertGreater(min(found.values()), 10)
        self.assertEqual(len(found), 6)

    def test_a_choice_that_goes_with_no_others(self):
        self.assertEqual({outputs[0] for outputs, _ in all_outlines(SECOND, 1)}, {("00", "11")})
        for word_at, let_at in itertools.product(itertools.product((0, 1), repeat=2), repeat=2):
            demand = SECOND
            for at in (0, 1):
                if word_at[at]:
                    demand = demand_with(demand, lambda word: signs_exchanged(word, at), str)
                if let_at[at]:
                    demand = demand_with(demand, str, lambda let: signs_exchanged(let, at))
            self.assertIs(shows_outlines(demand, 1, outlines_of(demand, 1)), True)
            self.assertIsNone(refusal_of(demand, 1))

    def test_demands_of_three_inputs(self):
        source = random.Random(82)
        found = set()
        for turn in range(120):
            demand = made_tight_demand(source, 3, 1 + turn % 3)
            for r in (1, 2):
                expected = has_outlines_by_definition(demand, r)
                self.assertIs(outlines_of(demand, r) is not None, expected, (demand, r))
                found.add((r, expected))
        self.assertEqual(len(found), 4)

    def test_lets_with_open_bits_at_settled_words(self):
        demand = (1, 2, (("0", ("?0",)), ("1", ("?1",)), ("?", ("1?",))))
        self.assertEqual(outlines_of(demand, 1), ((("0", "10"), ("1", "11")), (("10", "11"),)))
        self.assertEqual(outlines_of((1, 2, (("0", ("1?",)),)), 1)[0][0][1][0], "1")

    def test_only_words_with_an_open_bit(self):
        demand = (2, 1, (("0?", ("0",)), ("?1", ("1", "?")), ("1?", ("1",))))
        outlines = outlines_of(demand, 1)
        self.assertIs(shows_outlines(demand, 1, outlines), True)
        self.assertEqual(outlines[0], (("00", "0"), ("01", "0"), ("10", "1"), ("11", "1")))
        self.assertIsNone(outlines_of((2, 1, (("0?", ("0",)), ("?1", ("1", "0")), ("1?", ("1",)))), 8))

    def test_without_words_with_an_open_bit(self):
        self.assertEqual(outlines_of((2, 1, (("10", ("1",)), ("01", ("0",)))), 1), ((("01", "0"), ("10", "1")), ()))

    def test_greatest_demands(self):
        for demand in greatest_demands(83, 10):
            for r in (1, 4, 8):
                outlines = outlines_of(demand, r)
                if outlines is not None:
                    self.assertIs(shows_outlines(demand, r, outlines), True)

    def test_conversions(self):
        source = random.Random(84)
        for bits in (1, 2, 3):
            for many in {2, 2 ** bits}:
                for _ in range(10):
                    code = tuple(source.sample(settled_words_of(bits), many))
                    demand = conversion(code, reflected(3)[:many])
                    outlines = outlines_of(demand, 7)
                    self.assertIs(shows_outlines(demand, 7, outlines), True)

    def test_wrong_demands_and_counts(self):
        for function in (outlines_of, plan_of):
            for demand in NO_DEMANDS + NO_HALF_DEMANDS + odd_things():
                for r in (1, 0, True, None):
                    self.assert_raises_just(NoDemand, function, demand, r)
            for r in NO_COUNTS_OF_ROUNDS:
                self.assert_raises_just(NoCount, function, STEPPED, r)


class LeastRoundsTest(BitCase):
    def test_each_number(self):
        path = ("000", "001", "011", "010", "110", "111", "101", "100")
        for steps in range(1, 8):
            wishes = (("0", (path[0],)), ("1", (path[steps],)), LONG[2][2])
            self.assertEqual(least_rounds((1, 3, wishes)), steps)
            self.assertIsNone(outlines_of((1, 3, wishes), steps - 1) if steps > 1 else None)
        self.assertEqual(least_rounds(demand=LONG), 7)
        self.assertEqual(least_rounds((1, 1, (("?", ("?",)),))), 1)
        self.assertIsNone(least_rounds(CLOSED))
        self.assertIsNone(least_rounds(RING))

    def test_made_demands(self):
        found = set()
        for demand in real_demands(made_demands(85, 160)):
            self.assertEqual(least_rounds(demand), least_by_definition(demand), demand)
            found.add(least_rounds(demand))
        self.assertLessEqual({None, 1, 2}, found)

    def test_between_plain_numbers_and_reflected_ones(self):
        for bits in (1, 2, 3):
            demand = conversion(tuple(settled_words_of(bits)), reflected(bits))
            self.assertEqual(least_rounds(demand), 2 ** (bits - 1))

    def test_what_is_no_half_demand(self):
        for demand in NO_DEMANDS + NO_HALF_DEMANDS + odd_things():
            self.assert_raises_just(NoDemand, least_rounds, demand)


class PlanOfTest(BitCase):
    def assert_is_plan_for(self, demand, r):
        plan = plan_of(demand, r)
        self.assertIs(is_plan(plan), True)
        self.assertEqual((len(plan[0]), plan[1], len(plan[2][2])), (demand[0], r, demand[1]))
        self.assertLessEqual(set(plan[0]), {"low", "high"})
        self.assertIsNone(first_failing(demand, plan), (demand, r))

    def test_worked_demand(self):
        self.assertIsNone(plan_of(STEPPED, 1))
        for r in range(2, 9):
            self.assert_is_plan_for(STEPPED, r)
            self.assertIsNone(plan_of(CLOSED, r))
        self.assertIsNone(first_failing(STEPPED, plan_of(r=2, demand=STEPPED)))

    def test_made_demands(self):
        found = set()
        source = random.Random(86)
        demands = list(made_demands(87, 150)) + [made_tight_demand(source, 3, 2) for _ in range(40)]
        for demand in real_demands(demands):
            for r in (1, 2, 3):
                has_plan = outlines_of(demand, r) is not None
                if has_plan:
                    self.assert_is_plan_for(demand, r)
                else:
                    self.assertIsNone(plan_of(demand, r))
                found.add((demand[0], r, has_plan))
        self.assertEqual(len(found), 18)

    def test_longest_walks(self):
        self.assertIsNone(plan_of(LONG, 6))
        self.assert_is_plan_for(LONG, 7)
        self.assert_is_plan_for(LONG, 8)

    def test_greatest_demands(self):
        many = 0
        for demand in greatest_demands(88, 8):
            if outlines_of(demand, 8) is not None:
                many += 1
                self.assert_is_plan_for(demand, 8)
        self.assertGreater(many, 5)

    def test_a_plan_is_needed_for_outlines(self):
        source = random.Random(89)
        for _ in range(200):
            r, kind = source.randint(1, 3), source.choice(("plain", "low", "high"))
            gates = tuple((source.choice(("and", "or")), source.randrange(r), source.randrange(r)) for _ in range(2))
            outs = (source.randrange(r + 2), source.randrange(r + 2))
            demand = (1, 2, tuple((word, tuple(source.sample(words_of(2), 4))) for word in "01?"))
            if first_failing(demand, ((kind,), r, (r, gates, outs))) is None:
                self.assertIsNotNone(outlines_of(demand, r))


class RoundsTest(BitCase):
    """Promise [17], as far as it speaks of rounds."""

    def test_what_can_be_done_in_some_rounds_can_be_in_more(self):
        for demand in real_demands(made_demands(90, 60)) + [LONG, STEPPED, RING]:
            can = [outlines_of(demand, r) is not None for r in range(1, 9)]
            self.assertEqual(can, sorted(can))
            self.assertEqual(least_rounds(demand), can.index(True) + 1 if True in can else None)
            for r in range(1, 8):
                if can[r - 1]:
                    self.assertIs(shows_outlines(demand, r + 1, outlines_of(demand, r)), True)

    def test_in_one_round_there_are_outlines_exactly_if_there_are_picks(self):
        source = random.Random(91)
        found = set()
        demands = list(made_demands(92, 120)) + [made_tight_demand(source, 3, source.randint(1, 3)) for _ in range(60)]
        for demand in real_demands(demands):
            has_picks = picks_of(demand) is not None
            self.assertIs(outlines_of(demand, 1) is not None, has_picks, demand)
            found.add(has_picks)
        self.assertEqual(found, {True, False})

    def test_inputs_or_outs_exchanged(self):
        for demand in real_demands(made_demands(93, 60)) + [TWO_DEEP]:
            least = least_rounds(demand)
            self.assertEqual(least_rounds(demand_with(demand, lambda word: word[::-1], str)), least)
            self.assertEqual(least_rounds(demand_with(demand, str, lambda let: let[::-1])), least)

    def test_signs_exchanged(self):
        for demand in real_demands(made_demands(94, 40)) + [RING]:
            least = least_rounds(demand)
            for at in range(demand[0]):
                self.assertEqual(least_rounds(demand_with(demand, lambda word: signs_exchanged(word, at), str)), least)
            for at in range(demand[1]):
                self.assertEqual(least_rounds(demand_with(demand, str, lambda let: signs_exchanged(let, at))), least)

    def test_outlines_exchanged_are_shown_for_demands_exchanged(self):
        for demand in real_demands(made_demands(95, 40)):
            outlines = outlines_of(demand, 2)
            if outlines is not None:
                contrary = demand_with(demand, str, lambda let: signs_exchanged(let, 0))
                outputs = tuple((word, signs_exchanged(output, 0)) for word, output in outlines[0])
                walks = tuple(tuple(signs_exchanged(output, 0) for output in walk) for walk in outlines[1])
                self.assertIs(shows_outlines(contrary, 2, (outputs, walks)), True)
                turned = demand_with(demand, lambda word: signs_exchanged(word, 0), str)
                outputs = tuple(sorted((signs_exchanged(word, 0), output) for word, output in outlines[0]))
                halves = [word for word, _ in demand[2] if "?" in word]
                walks = tuple(
                    walk[::-1] if word[0] == "?" else walk for word, walk in zip(halves, outlines[1])
                )
                self.assertIs(shows_outlines(turned, 2, (outputs, walks)), True)

    def test_the_order_of_wishes_and_lets_does_not_matter(self):
        for n, m, wishes in real_demands(made_demands(96, 60)):
            other = (n, m, tuple((word, lets[::-1]) for word, lets in wishes[::-1]))
            self.assertEqual(least_rounds((n, m, wishes)), least_rounds(other))


if __name__ == "__main__":
    unittest.main()
