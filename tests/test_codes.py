"""Promises [1] and [13]: codes, words half done between neighbours, and conversions."""

import itertools
import random
import unittest

from halfbits.codes import conversion, losses, read_as, reflected
from halfbits.errors import NoCode, NoCount, NoKind, NoMatch, NoWord
from halfbits.rounds import least_rounds, outlines_of, plan_of, shows_outlines
from halfbits.stores import first_failing, is_half_demand
from tests.support import (
    NO_WORDS, BitCase, joined_by_definition, odd_things, settled_words_of, settlings_by_definition, words_of,
)

EIGHT = tuple(settled_words_of(8))
NO_CODES = [
    ["0", "1"], ("0",), (), ("0", "0"), ("0", "1", "0"), ("0", "11"), ("00", "1"), ("0", "?"), ("0?", "11"), "01",
    ("0", "x"), ("0", 1), (0, 1), (True, False), (None, None), ("0" * 9, "1" * 9), ("0" * 32, "1" * 32), ("", "0"),
    ("", ""), EIGHT + ("0" * 8,), EIGHT + ("0" * 9,), EIGHT + ("?" * 8,), None, 1, True, {"0": 1, "1": 2}, {}, ("01",),
    (("0",), ("1",)), ["0"], ("0", None), ("0", ["1"]), ("0" * 1000, "1" * 1000), (["0"], ["1"]), ({}, "1"),
]


def made_code(source, bits, many):
    """A code picked by a source of numbers."""
    return tuple(source.sample(settled_words_of(bits), many))


def losses_by_definition(code, is_ring):
    """The numbers of the neighbours for which the half done word has further settlings, one by one."""
    found = []
    for number in range(len(code) if is_ring else len(code) - 1):
        both = {code[number], code[(number + 1) % len(code)]}
        if set(settlings_by_definition(joined_by_definition(sorted(both)))) != both:
            found.append(number)
    return found


def reflected_by_definition(bits):
    """The code of one bit less with "0" ahead, then the same backwards with "1" ahead."""
    if bits == 1:
        return ("0", "1")
    less = reflected_by_definition(bits - 1)
    return tuple("0" + word for word in less) + tuple("1" + word for word in reversed(less))


def conversion_by_definition(code, other):
    """The wishes of a conversion, looked for at all words."""
    number_of = {word: number for number, word in enumerate(code)}
    wishes = []
    for word in sorted(words_of(len(code[0]))):
        ends = sorted(number_of[settled] for settled in settlings_by_definition(word) if settled in number_of)
        if word in number_of:
            wishes.append((word, (other[number_of[word]],)))
        elif word.count("?") == 1 and len(ends) == 2:
            lets = []
            for number in range(*ends):
                let = joined_by_definition([other[number], other[number + 1]])
                if let not in lets:
                    lets.append(let)
            wishes.append((word, tuple(lets)))
    return (len(code[0]), len(other[0]), tuple(wishes))


class LossesTest(BitCase):
    def test_worked_code(self):
        self.assertEqual(losses(("00", "01", "10"), True), [1])
        self.assertEqual(losses(("00", "01", "10"), False), [1])
        self.assertEqual(losses(("00", "01", "11"), False), [])
        self.assertEqual(losses(("00", "01", "11"), True), [2])
        self.assertEqual(losses(is_ring=True, code=("00", "11")), [0, 1])
        self.assertEqual(losses(("00", "11"), False), [0])
        self.assertEqual(losses(("0", "1"), True), [])

    def test_made_codes(self):
        source = random.Random(110)
        for _ in range(200):
            bits = source.randint(1, 5)
            code = made_code(source, bits, source.randint(2, 2 ** bits))
            for is_ring in (True, False):
                self.assertEqual(losses(code, is_ring), losses_by_definition(code, is_ring), code)

    def test_greatest_codes(self):
        self.assertEqual(losses(EIGHT, True), [number for number in range(256) if number % 2])
        self.assertEqual(losses(EIGHT, False), [number for number in range(255) if number % 2])

    def test_each_call_returns_a_new_list(self):
        first = losses(("00", "11"), True)
        first.clear()
        self.assertEqual(losses(("00", "11"), True), [0, 1])

    def test_what_is_no_code(self):
        for thing in NO_CODES + odd_things():
            if thing != ("0", "1"):
                self.assert_raises_just(NoCode, losses, thing, True)
                self.assert_raises_just(NoCode, losses, thing, None)

    def test_what_is_no_answer(self):
        for thing in odd_things() + [0, 1, None, "True", (True,), [False]]:
            if thing is not True and thing is not False:
                self.assert_raises_just(NoKind, losses, ("0", "1"), thing)


class ReadAsTest(BitCase):
    def test_worked_code(self):
        self.assertEqual(read_as(reflected(2), "?1"), [1, 2])
        self.assertEqual(read_as(word="11", code=("00", "01")), [])
        self.assertEqual(read_as(("10", "00", "11"), "??"), [0, 1, 2])

    def test_made_codes(self):
        source = random.Random(111)
        for _ in range(60):
            bits = source.randint(1, 4)
            code = made_code(source, bits, source.randint(2, 2 ** bits))
            for word in words_of(bits):
                settled = settlings_by_definition(word)
                self.assertEqual(read_as(code, word), [k for k, one in enumerate(code) if one in settled])

    def test_half_done_words_of_the_reflected_code(self):
        code = reflected(6)
        for number in range(63):
            self.assertEqual(read_as(code, joined_by_definition(code[number:number + 2])), [number, number + 1])
            self.assertEqual(read_as(code, code[number]), [number])
        self.assertEqual(read_as(code, joined_by_definition([code[63], code[0]])), [0, 63])

    def test_greatest_code(self):
        self.assertEqual(read_as(EIGHT, "?" * 8), list(range(256)))
        self.assertEqual(read_as(EIGHT, "1111111?"), [254, 255])

    def test_each_call_returns_a_new_list(self):
        first = read_as(("0", "1"), "?")
        first.append(2)
        self.assertEqual(read_as(("0", "1"), "?"), [0, 1])

    def test_what_is_no_code(self):
        for thing in NO_CODES + odd_things():
            if thing != ("0", "1"):
                self.assert_raises_just(NoCode, read_as, thing, "0")
                self.assert_raises_just(NoCode, read_as, thing, None)

    def test_what_is_no_word(self):
        for thing in NO_WORDS + odd_things():
            self.assert_raises_just(NoWord, read_as, ("0", "1"), thing)

    def test_words_of_another_number_of_bits(self):
        for word in ("0", "?", "000", "???", "0" * 32):
            self.assert_raises_just(NoMatch, read_as, ("00", "11"), word)


class ReflectedTest(BitCase):
    def test_all_numbers_of_bits(self):
        for bits in range(1, 9):
            code = reflected(bits)
            self.assertEqual(code, reflected_by_definition(bits))
            self.assertEqual(sorted(code), settled_words_of(bits))
            self.assertEqual(losses(code, True), [])
            self.assertEqual(losses(code, False), [])
        self.assertEqual(reflected(bits=2), ("00", "01", "11", "10"))

    def test_what_is_no_number_of_bits(self):
        for thing in [0, 9, -1, 10 ** 12, True, False, None, "1", (1,), [1], {}] + odd_things():
            if type(thing) is not int or not 1 <= thing <= 8:
                self.assert_raises_just(NoCount, reflected, thing)


class ConversionTest(BitCase):
    def test_small_codes(self):
        self.assertEqual(
            conversion(("0", "1"), ("00", "11")), (1, 2, (("0", ("00",)), ("1", ("11",)), ("?", ("??",)))),
        )
        self.assertEqual(
            conversion(other=reflected(2), code=("00", "01", "10", "11")),
            (2, 2, (
                ("00", ("00",)), ("01", ("01",)), ("0?", ("0?",)), ("10", ("11",)), ("11", ("10",)),
                ("1?", ("1?",)), ("?0", ("0?", "?1")), ("?1", ("?1", "1?")),
            )),
        )

    def test_codes_that_leave_words_out(self):
        self.assertEqual(
            conversion(("11", "00"), ("0", "1")), (2, 1, (("00", ("1",)), ("11", ("0",)))),
        )
        self.assertEqual(
            conversion(("01", "10", "00"), ("000", "010", "110")),
            (2, 3, (("00", ("110",)), ("01", ("000",)), ("0?", ("0?0", "?10")), ("10", ("010",)), ("?0", ("?10",)))),
        )

    def test_each_join_once(self):
        code = ("000", "011", "101", "110", "111", "001")
        other = ("000", "001", "010", "011", "101", "100")
        # The joins from 0 to 5: 00?, 0??, 01?, ??1, 10?.
        wishes = dict(conversion(code, other)[2])
        self.assertEqual(wishes["00?"], ("00?", "0??", "01?", "??1", "10?"))
        other = ("000", "111", "001", "110", "010", "101")
        self.assertEqual(dict(conversion(code, other)[2])["00?"], ("???", "??1", "?10"))
        other = ("00", "01", "11", "10")
        self.assertEqual(dict(conversion(("00", "11", "10", "01"), other)[2])["0?"], ("0?", "?1", "1?"))

    def test_all_pairs_of_short_codes(self):
        for many in (2, 3, 4):
            codes = [code for bits in (1, 2) for code in itertools.permutations(settled_words_of(bits), many)]
            for code, other in itertools.product(codes[:40], codes[::3]):
                demand = conversion(code, other)
                self.assertEqual(demand, conversion_by_definition(code, other), (code, other))
                self.assertIs(is_half_demand(demand), True)

    def test_made_codes(self):
        source = random.Random(112)
        for _ in range(200):
            bits, other_bits = source.choice([(3, 3), (2, 3), (3, 2), (1, 3), (3, 1)])
            many = source.randint(2, 2 ** min(bits, other_bits))
            code, other = made_code(source, bits, many), made_code(source, other_bits, many)
            demand = conversion(code, other)
            self.assertEqual(demand, conversion_by_definition(code, other), (code, other))
            self.assertIs(is_half_demand(demand), True)

    def test_outlines_of_conversions(self):
        source = random.Random(113)
        for _ in range(40):
            many = source.randint(2, 8)
            demand = conversion(made_code(source, 3, many), made_code(source, 3, many))
            least = least_rounds(demand)
            if least is not None:
                self.assertIs(shows_outlines(demand, least, outlines_of(demand, least)), True)
                self.assertIsNone(first_failing(demand, plan_of(demand, least)))

    def test_from_plain_numbers_to_reflected_ones(self):
        for bits in (1, 2, 3):
            demand = conversion(tuple(settled_words_of(bits)), reflected(bits))
            self.assertEqual(least_rounds(demand), 2 ** (bits - 1))
            self.assertIs(shows_outlines(demand, 2 ** (bits - 1), outlines_of(demand, 2 ** (bits - 1))), True)
            # The last word and the first one differ in one bit: the walk between them comes to all outputs.
            self.assertEqual(least_rounds(conversion(reflected(bits), reflected(bits))), 2 ** bits - 1)

    def test_what_is_no_code(self):
        four = (("0000", "1111"), tuple(settled_words_of(4)), EIGHT, ("0" * 8, "1" * 8))
        for thing in NO_CODES + odd_things() + list(four):
            if thing != ("0", "1"):
                for other in (("0", "1"), ("0", "0"), None, ("00", "01", "10")):
                    self.assert_raises_just(NoCode, conversion, thing, other)
                self.assert_raises_just(NoCode, conversion, ("0", "1"), thing)
                self.assert_raises_just(NoCode, conversion, ("000", "001", "111"), thing)

    def test_codes_of_unlike_numbers_of_words(self):
        for code, other in itertools.permutations([reflected(1), reflected(2), reflected(3), ("00", "01", "11")], 2):
            self.assert_raises_just(NoMatch, conversion, code, other)


if __name__ == "__main__":
    unittest.main()
