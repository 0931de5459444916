"""Promises [1] and [12]: refusals, which show that there are no outlines."""

import random
import unittest

from halfbits.errors import NoCount, NoDemand
from halfbits.refusals import refusal_of, shows_refusal
from halfbits.rounds import outlines_of
from tests.halves import (
    LONG, NO_COUNTS_OF_ROUNDS, NO_HALF_DEMANDS, RING, TWO_DEEP, choices_by_definition, ends_by_definition,
    half_words_of, made_half_demand, made_tight_demand, variants,
)
from tests.support import (
    NO_DEMANDS, BitCase, demand_with, nested, odd_things, settled_words_of, signs_exchanged, words_of,
)

CLOSED = (1, 1, (("0", ("0",)), ("1", ("1",)), ("?", ("0", "1"))))
FREE = (1, 1, (("?", ("0", "1")),))


def is_refusal(demand, r, thing, choices=None, deep=8):
    """Whether a thing is a refusal, by the document's words."""
    choices = choices_by_definition(demand) if choices is None else choices
    if type(thing) is not tuple or len(thing) != 2 or type(thing[0]) is not tuple:
        return False
    left = {word: list(outputs) for word, outputs in choices.items()}
    for step in thing[0]:
        if not strikes(demand, r, step, left):
            return False
        left[step[0]].remove(step[1])
    if any(outputs == [] for outputs in left.values()):
        return thing[1] is None
    if deep == 0 or type(thing[1]) is not tuple or len(thing[1]) != 2:
        return False
    word, refusals = thing[1]
    if type(word) is not str or word not in left or type(refusals) is not tuple or len(refusals) != len(left[word]):
        return False
    return all(
        is_refusal(demand, r, refusal, {**left, word: [output]}, deep - 1)
        for output, refusal in zip(left[word], refusals)
    )


def strikes(demand, r, step, left):
    """Whether a step strikes a choice that is left."""
    if type(step) is not tuple or len(step) != 3 or type(step[0]) is not str or type(step[1]) is not str:
        return False
    word, output, number = step
    if type(number) is not int or not 0 <= number < len(demand[2]) or output not in left.get(word, []):
        return False
    wished, lets = demand[2][number]
    settled = [wished.replace("?", "0"), wished.replace("?", "1")]
    if "?" not in wished or word not in settled:
        return False
    other = settled[1 - settled.index(word)]
    return not set(left[other]) & ends_by_definition(output, lets, r)


def depth(refusal):
    """How deep the rests of a refusal are nested."""
    return 0 if refusal[1] is None else 1 + max(depth(other) for other in refusal[1][1])


def refused_demands(seed, many):
    """Half demands, each with a number of rounds in which there are no outlines."""
    source = random.Random(seed)
    while many:
        n, m, r = source.randint(1, 3), source.randint(1, 3), source.randint(1, 3)
        demand = source.choice((
            made_tight_demand(source, n, m), made_half_demand(source, n, m, source.randint(3, 12), source.randint(2, 4)),
        ))
        if demand[2] and outlines_of(demand, r) is None:
            many -= 1
            yield demand, r


def split_on(word, demand, r, deep):
    """A refusal that first looks so many times at a word with one choice."""
    refusal = refusal_of(demand, r)
    for _ in range(deep):
        refusal = ((), (word, (refusal,)))
    return refusal


class RefusalOfTest(BitCase):
    def test_worked_demand(self):
        for r in range(1, 9):
            self.assertIs(shows_refusal(CLOSED, r, refusal_of(CLOSED, r)), True)
            self.assertIsNone(refusal_of(FREE, r))
        self.assertIs(shows_refusal(CLOSED, 8, refusal_of(r=8, demand=CLOSED)), True)

    def test_exactly_where_there_are_no_outlines(self):
        source = random.Random(100)
        found = {}
        for turn in range(300):
            n, m = source.randint(1, 3), source.randint(1, 3)
            demand = made_tight_demand(source, n, m) if turn % 2 else made_half_demand(source, n, m, 9, 4)
            for r in (1, 2, 5):
                if demand[2]:
                    refusal = refusal_of(demand, r)
                    self.assertIs(refusal is None, outlines_of(demand, r) is not None, (demand, r))
                    if refusal is not None:
                        self.assertIs(shows_refusal(demand, r, refusal), True, (demand, r))
                        self.assertIs(is_refusal(demand, r, refusal), True, (demand, r))
                    found[(r, refusal is None)] = found.get((r, refusal is None), 0) + 1
        self.assertGreater(min(found.values()), 20)
        self.assertEqual(len(found), 6)

    def test_choices_that_must_be_told_apart(self):
        for r in (1, 2, 8):
            refusal = refusal_of(RING, r)
            self.assertEqual(refusal[0], ())
            self.assertIsNotNone(refusal[1])
            self.assertIs(is_refusal(RING, r, refusal), True)
            self.assertIs(shows_refusal(RING, r, refusal), True)
        for r, least_depth in ((1, 1), (2, 2)):
            refusal = refusal_of(TWO_DEEP, r)
            self.assertGreaterEqual(depth(refusal), least_depth)
            self.assertLessEqual(depth(refusal), 8)
            self.assertIs(is_refusal(TWO_DEEP, r, refusal), True)
            self.assertIs(shows_refusal(TWO_DEEP, r, refusal), True)

    def test_a_walk_that_is_too_long(self):
        for r in range(1, 7):
            self.assertIs(shows_refusal(LONG, r, refusal_of(LONG, r)), True)
        self.assertIsNone(refusal_of(LONG, 7))
        self.assertIsNone(refusal_of(LONG, 8))

    def test_without_words_with_an_open_bit(self):
        self.assertIsNone(refusal_of((2, 1, (("10", ("1",)), ("01", ("0",)))), 1))

    def test_greatest_demands(self):
        source = random.Random(101)
        for lets in (1, 2, 3, 4, 8):
            for _ in range(8):
                demand = (3, 3, tuple(
                    (word, tuple(source.sample(words_of(3), lets))) for word in half_words_of(3)
                ))
                for r in (1, 8):
                    refusal = refusal_of(demand, r)
                    self.assertIs(refusal is None, outlines_of(demand, r) is not None)
                    self.assertIs(refusal is None or shows_refusal(demand, r, refusal), True)

    def test_exchanged_demands(self):
        for demand, r in refused_demands(102, 20):
            for other in (demand_with(demand, lambda word: word[::-1], str),
                          demand_with(demand, str, lambda let: signs_exchanged(let, 0))):
                self.assertIs(shows_refusal(other, r, refusal_of(other, r)), True)

    def test_wrong_demands_and_counts(self):
        for demand in NO_DEMANDS + NO_HALF_DEMANDS + odd_things():
            for r in (1, 0, True, None):
                self.assert_raises_just(NoDemand, refusal_of, demand, r)
                self.assert_raises_just(NoDemand, shows_refusal, demand, r, ((), None))
        for r in NO_COUNTS_OF_ROUNDS:
            self.assert_raises_just(NoCount, refusal_of, CLOSED, r)
            self.assert_raises_just(NoCount, shows_refusal, CLOSED, r, ((), None))


class ShowsRefusalTest(BitCase):
    def test_worked_demand(self):
        self.assertIs(shows_refusal(CLOSED, 3, ((("0", "0", 2),), None)), True)
        self.assertIs(shows_refusal(CLOSED, 3, ((("1", "1", 2),), None)), True)
        self.assertIs(shows_refusal(CLOSED, 3, ((), None)), False)
        self.assertIs(shows_refusal(thing=((("0", "0", 2),), None), demand=CLOSED, r=3), True)

    def test_steps_that_strike_nothing(self):
        for step in (("0", "1", 2), ("0", "0", 0), ("0", "0", 1), ("0", "0", 3), ("0", "0", -1), ("0", "0", True),
                     ("0", "0", "2"), ("1", "0", 2), ("?", "0", 2), ("00", "0", 2), ("0", "?", 2), ("0", "00", 2),
                     ("0", "0"), ("0", "0", 2, 2), ["0", "0", 2], (None, "0", 2), ("0", None, 2), (0, "0", 2),
                     ("0", 0, 2), ("0", "0", None), "002", (), None, (("0",), "0", 2), ("0", ["0"], 2), ({}, "0", 2)):
            self.assertIs(shows_refusal(CLOSED, 3, ((step,), None)), False, step)

    def test_steps_behind_those_that_clear_a_word(self):
        steps = (("0", "0", 2), ("1", "1", 2))
        self.assertIs(shows_refusal(CLOSED, 3, (steps, None)), True)
        self.assertIs(shows_refusal(CLOSED, 3, (steps[::-1], None)), True)
        self.assertIs(shows_refusal(CLOSED, 3, (steps + steps[:1], None)), False)
        self.assertIs(shows_refusal(CLOSED, 3, (steps[:1] * 2, None)), False)

    def test_a_number_that_is_no_integer(self):
        demand = (1, 1, (("0", ("0",)), ("?", ("0", "1")), ("1", ("1",))))
        self.assertIs(shows_refusal(demand, 1, ((("0", "0", 1),), None)), True)
        self.assertIs(shows_refusal(demand, 1, ((("0", "0", True),), None)), False)
        demand = (1, 1, (("?", ("0", "1")), ("0", ("0",)), ("1", ("1",))))
        self.assertIs(shows_refusal(demand, 1, ((("0", "0", 0),), None)), True)
        self.assertIs(shows_refusal(demand, 1, ((("0", "0", False),), None)), False)

    def test_steps_in_lists(self):
        self.assertIs(shows_refusal(CLOSED, 3, ([("0", "0", 2)], None)), False)
        self.assertIs(shows_refusal(CLOSED, 3, [(("0", "0", 2),), None]), False)
        self.assertIs(shows_refusal(CLOSED, 3, ((["0", "0", 2],), None)), False)

    def test_steps_of_too_many_rounds(self):
        demand = (1, 2, (("0", ("00",)), ("1", ("11",)), ("?", ("0?", "?1"))))
        thing = ((("0", "00", 2),), None)
        self.assertIs(shows_refusal(demand, 1, thing), True)
        for r in range(2, 9):
            self.assertIs(shows_refusal(demand, r, thing), False)

    def test_choices_out_of_turn(self):
        demand = (2, 1, (("00", ("0",)), ("0?", ("0", "1")), ("?1", ("0", "1")), ("11", ("1",))))
        first, second, third = ("01", "1", 1), ("11", "1", 2), ("01", "0", 2)
        self.assertIs(shows_refusal(demand, 1, ((first, second), None)), True)
        self.assertIs(shows_refusal(demand, 1, ((second, first), None)), False)
        self.assertIs(shows_refusal(demand, 1, ((second,), None)), False)
        self.assertIs(shows_refusal(demand, 1, ((first, third), None)), True)
        self.assertIs(shows_refusal(demand, 1, ((third, first), None)), True)
        self.assertIs(shows_refusal(demand, 1, ((first,), None)), False)

    def test_all_outputs_are_choices_where_there_is_no_wish(self):
        demand = (1, 1, (("0", ("1",)), ("?", ("0",))))
        self.assertIs(shows_refusal(demand, 1, ((("0", "1", 1),), None)), True)
        self.assertIs(shows_refusal(demand, 1, ((("1", "1", 1), ("0", "1", 1)), None)), True)
        self.assertIs(shows_refusal(demand, 1, ((("1", "1", 1),), None)), False)
        self.assertIs(shows_refusal(demand, 1, ((("1", "0", 1),), None)), False)
        self.assertIs(shows_refusal(demand, 1, ((("1", "0", 1), ("1", "1", 1)), None)), True)

    def test_a_rest_where_a_word_has_no_choice_left(self):
        rest = ("0", ())
        self.assertIs(shows_refusal(CLOSED, 3, ((("0", "0", 2),), rest)), False)
        self.assertIs(shows_refusal(CLOSED, 3, ((("0", "0", 2),), ("1", (((), None),)))), False)

    def test_rests_of_one_choice(self):
        inner = ((("0", "0", 2),), None)
        self.assertIs(shows_refusal(CLOSED, 3, ((), ("0", (inner,)))), True)
        self.assertIs(shows_refusal(CLOSED, 3, ((), ("1", (inner,)))), True)
        for rest in (("0", ()), ("0", (inner, inner)), ("0", inner), ("0", [inner]), ("?", (inner,)), (None, (inner,)),
                     ("00", (inner,)), ["0", (inner,)], ("0", (inner,), ()), ("0",), (), inner, ("0", None)):
            self.assertIs(shows_refusal(CLOSED, 3, ((), rest)), False, rest)

    def test_rests_eight_deep_and_nine_deep(self):
        for word in ("0", "1"):
            for deep in range(12):
                thing = split_on(word, CLOSED, 2, deep)
                self.assertIs(shows_refusal(CLOSED, 2, thing), deep <= 8, deep)
        thing = split_on("0", CLOSED, 2, 300)
        self.assertIs(shows_refusal(CLOSED, 2, thing), False)

    def test_refusals_in_another_order(self):
        for demand, r in ((RING, 1), (TWO_DEEP, 2)):
            steps, (word, refusals) = refusal_of(demand, r)
            self.assertIs(shows_refusal(demand, r, (steps, (word, refusals))), True)
            for others in (refusals[::-1], refusals[1:], refusals[:-1], refusals + refusals[:1], refusals[:1] * len(refusals)):
                self.assertIs(shows_refusal(demand, r, (steps, (word, others))), is_refusal(demand, r, (steps, (word, others))))
                self.assertIs(shows_refusal(demand, r, (steps, (word, others))), False)
            self.assertIs(shows_refusal(demand, r, (steps, None)), False)

    def test_told_refusals_with_a_part_changed(self):
        source = random.Random(105)
        seen = {True: 0, False: 0}
        for demand, r in [(CLOSED, 1), (RING, 2), (TWO_DEEP, 2)] + list(refused_demands(103, 25)):
            things = list(variants(refusal_of(demand, r)))
            for thing in source.sample(things, min(len(things), 100)):
                expected = is_refusal(demand, r, thing)
                seen[expected] += 1
                self.assertIs(shows_refusal(demand, r, thing), expected, (demand, r, thing))
        self.assertGreater(min(seen.values()), 20)

    def test_refusals_of_other_demands_and_rounds(self):
        refused = list(refused_demands(104, 12))
        told = [refusal_of(demand, r) for demand, r in refused]
        for demand, r in refused:
            for thing in told:
                self.assertIs(shows_refusal(demand, r, thing), is_refusal(demand, r, thing))
                self.assertIs(shows_refusal(demand, 8, thing), is_refusal(demand, 8, thing))

    def test_no_refusal_is_shown_where_there_are_outlines(self):
        words = settled_words_of(1)
        for word in words:
            for output in words:
                self.assertIs(shows_refusal(FREE, 1, (((word, output, 0),), None)), False)

    def test_other_things(self):
        inner = ((("0", "0", 2),), None)
        for thing in odd_things() + [nested(tuple, 5000)]:
            self.assertIs(shows_refusal(CLOSED, 2, thing), False)
            for other in ((thing, None), ((thing,), None), (inner[0], thing if thing is not None else ()),
                          ((), thing), ((), (thing, (inner,))), ((), ("0", thing)), ((), ("0", (thing,))),
                          ((("0", "0", thing),), None), ((("0", thing, 2),), None), (((thing, "0", 2),), None)):
                expected = is_refusal(CLOSED, 2, other)
                self.assertIs(shows_refusal(CLOSED, 2, other), expected)


if __name__ == "__main__":
    unittest.main()
