"""Promises [1] and [14]: places of words, the net that orders two words, and rows of comparators."""

import itertools
import random
import unittest

from halfbits.errors import NoCount, NoMatch, NoRow, NoWord
from halfbits.nets import is_net, run
from halfbits.sorting import first_unsorted, order_net, place_of, sorted_by, word_at
from tests.support import NO_WORDS, BitCase, joined_by_definition, odd_things, settled_words_of, words_of

# Each two neighbours in turn, so often that the greatest comes to the end, then the next one, and so on.
BUBBLES = {k: tuple((i, i + 1) for last in range(k - 1, 0, -1) for i in range(last)) for k in range(2, 9)}
NO_PAIRS = [
    (0, 0), (1, 0), (0, 8), (7, 8), (-1, 0), (-1, 1), (0, -1), (True, 2), (False, 1), (0, True), [0, 1], (0, 1, 2),
    (0,), (), None, 0, "01", ("0", "1"), (0, "1"), (None, 1), (0, None), ((0, 1),), (0, (1,)), (0, [1]), {0: 1},
]
NO_ROWS = [
    [], [(0, 1)], ([0, 1],), None, True, 0, 1, "", "01", {}, {(0, 1): 1}, (0, 1), ((0, 1), None), ((0, 1),) * 201,
    ((0, 1), [1, 2]), (((0, 1),),), ((),),
]


def reflected_word(bits, number):
    """The word of the reflected code with a number."""
    return format(number ^ number >> 1, "0" + str(bits) + "b")


def placed_word(bits, place):
    """The word at a place: a word of the reflected code, or two neighbours joined."""
    ends = [reflected_word(bits, place // 2), reflected_word(bits, (place + 1) // 2)]
    return joined_by_definition(ends)


def places(bits):
    """All places of words of so many bits."""
    return range(2 * 2 ** bits - 1)


def drawn_places(source, bits, many):
    """The first and the last place, and others picked by a source of numbers, near ones too."""
    last = 2 * 2 ** bits - 2
    drawn = [0, 1, 2, last // 2 - 1, last // 2, last // 2 + 1, last - 2, last - 1, last]
    for _ in range(many):
        place = source.randrange(last + 1)
        drawn += [place, min(last, max(0, place + source.randint(-3, 3)))]
    return drawn


def behind_by_definition(row, things, key):
    """The list behind a row that puts the lesser of two by a key first."""
    things = list(things)
    for i, j in row:
        things[i], things[j] = sorted([things[i], things[j]], key=key)
    return things


class PlaceTest(BitCase):
    def test_worked_places(self):
        self.assertEqual([place_of("0?1"), word_at(3, 7)], [3, "?10"])
        self.assertEqual([place_of(word="1"), word_at(place=1, bits=1)], [2, "?"])

    def test_there_and_back(self):
        for bits in range(1, 9):
            order = [placed_word(bits, place) for place in places(bits)]
            self.assertEqual([word_at(bits, place) for place in places(bits)], order)
            self.assertEqual([place_of(word) for word in order], list(places(bits)))

    def test_sixteen_bits(self):
        source = random.Random(120)
        for place in drawn_places(source, 16, 300):
            word = placed_word(16, place)
            self.assertEqual(word_at(16, place), word)
            self.assertEqual(place_of(word), place)
        self.assertEqual(word_at(16, 0), "0" * 16)
        self.assertEqual(word_at(16, 2 * 2 ** 16 - 2), "1" + "0" * 15)

    def test_words_without_a_place(self):
        for bits in range(1, 6):
            order = {placed_word(bits, place) for place in places(bits)}
            for word in words_of(bits):
                self.assertIs(place_of(word) is None, word not in order, word)
        for word in ("??", "?00", "0?0", "?000", "?" * 16, "?" + "0" * 15, "?1" + "0" * 13 + "?", "0" * 14 + "??"):
            self.assertIsNone(place_of(word), word)
        self.assertEqual(place_of("?1" + "0" * 14), 2 ** 16 - 1)

    def test_what_is_no_short_word(self):
        for thing in NO_WORDS + odd_things() + ["0" * 17, "?" * 17, "01" * 16, "?" + "0" * 31]:
            self.assert_raises_just(NoWord, place_of, thing)

    def test_what_is_no_number_of_bits(self):
        for bits in [0, 17, -1, 10 ** 12, True, False, None, "1", (1,), [1], {}]:
            for place in (0, -1, True, None):
                self.assert_raises_just(NoCount, word_at, bits, place)
            self.assert_raises_just(NoCount, order_net, bits)

    def test_what_is_no_place(self):
        for bits in range(1, 17):
            for place in (-1, 2 * 2 ** bits - 1, 2 * 2 ** bits, 10 ** 12, True, False, None, "0", (0,), [0]):
                self.assert_raises_just(NoCount, word_at, bits, place)


class OrderNetTest(BitCase):
    def assert_orders(self, net, bits, place, other):
        first, last = sorted([place, other])
        word = placed_word(bits, place) + placed_word(bits, other)
        self.assertEqual(run(net, word), placed_word(bits, first) + placed_word(bits, last), word)

    def test_all_pairs(self):
        for bits in (1, 2, 3, 4):
            net = order_net(bits)
            self.assertIs(is_net(net), True)
            self.assertEqual((net[0], len(net[2])), (2 * bits, 2 * bits))
            for place, other in itertools.product(places(bits), repeat=2):
                self.assert_orders(net, bits, place, other)
        self.assertEqual(run(order_net(bits=2), "1?01"), "011?")

    def test_drawn_pairs(self):
        source = random.Random(121)
        for bits in range(5, 17):
            net = order_net(bits)
            self.assertIs(is_net(net), True)
            self.assertEqual((net[0], len(net[2])), (2 * bits, 2 * bits))
            drawn = drawn_places(source, bits, 40)
            for place, other in zip(drawn, drawn[1:]):
                self.assert_orders(net, bits, place, other)
                self.assert_orders(net, bits, other, place)
                self.assert_orders(net, bits, place, place)

    def test_settled_words_without_gaps(self):
        net = order_net(4)
        for word, other in itertools.product(settled_words_of(4), repeat=2):
            self.assertEqual(run(net, word + other), "".join(sorted([word, other], key=place_of)))


class SortedByTest(BitCase):
    def test_worked_row(self):
        self.assertEqual(sorted_by(((0, 1), (1, 2), (0, 1)), ["10", "?1", "00"]), ["00", "?1", "10"])
        self.assertEqual(sorted_by(words=["1", "0"], row=((0, 1),)), ["0", "1"])
        self.assertEqual(sorted_by((), ["1", "?", "0"]), ["1", "?", "0"])

    def test_rows_that_sort(self):
        source = random.Random(122)
        for bits in (1, 2, 3, 8, 16):
            for k, row in BUBBLES.items():
                for _ in range(10):
                    drawn = [source.randrange(2 * 2 ** bits - 1) for _ in range(k)]
                    words = [placed_word(bits, place) for place in drawn]
                    self.assertEqual(sorted_by(row, words), [placed_word(bits, place) for place in sorted(drawn)])

    def test_made_rows(self):
        source = random.Random(123)
        for _ in range(200):
            k, bits = source.randint(2, 8), source.randint(1, 5)
            pairs = list(itertools.combinations(range(k), 2))
            row = tuple(source.choice(pairs) for _ in range(source.randint(0, 12)))
            words = [placed_word(bits, source.choice(places(bits))) for _ in range(k)]
            given = list(words)
            self.assertEqual(sorted_by(row, words), behind_by_definition(row, words, place_of))
            self.assertEqual(words, given)

    def test_rows_of_200_pairs(self):
        row = (BUBBLES[8] * 8)[:200]
        words = [placed_word(16, 2 * 2 ** 16 - 2 - k) for k in range(8)]
        self.assertEqual(sorted_by(row, words), words[::-1])
        self.assertEqual(sorted_by(((0, 1),) * 200, ["1", "0"]), ["0", "1"])
        self.assert_raises_just(NoRow, sorted_by, row + ((0, 1),), words)

    def test_returned_lists_are_new(self):
        words = ["0", "1"]
        self.assertIsNot(sorted_by((), words), words)
        sorted_by((), words).append("?")
        self.assertEqual(words, ["0", "1"])

    def test_what_is_no_row(self):
        for thing in NO_ROWS + [(pair,) for pair in NO_PAIRS] + [((0, 1), pair) for pair in NO_PAIRS]:
            for words in (["0", "1"], None, ["0", "11"], []):
                self.assert_raises_just(NoRow, sorted_by, thing, words)
        for thing in odd_things():
            if thing != ():
                self.assert_raises_just(NoRow, sorted_by, thing, ["0", "1"])
            self.assert_raises_just(NoRow, sorted_by, (thing,), ["0", "1"])

    def test_what_are_no_words(self):
        wrong = [
            ("0", "1"), [], ["0"], ["0"] * 9, "01", None, True, {"0": 1, "1": 2}, ["0", None], [None, "0"], ["0", 1],
            ["00", "??"], ["?0", "00"], ["?" + "0" * 15, "0" * 16], ["0" * 17, "0" * 17], ["0" * 17, "0"], ["0", ["1"]],
            ["0", "00", "??"], ["0", "00", ""], ["0", "x"],
        ]
        for words in wrong + [thing for thing in odd_things() if thing != ["0", "1"]]:
            for row in ((), ((0, 1),), ((6, 7),)):
                self.assert_raises_just(NoWord, sorted_by, row, words)

    def test_words_of_unlike_numbers_of_bits(self):
        for words in (["0", "00"], ["00", "0"], ["000", "000", "0000"], ["0", "1", "1" + "0" * 15]):
            self.assert_raises_just(NoMatch, sorted_by, (), words)
            self.assert_raises_just(NoMatch, sorted_by, ((6, 7),), words)

    def test_numbers_that_the_words_have_not(self):
        for k in range(2, 8):
            words = ["0", "1"] * 4
            self.assertEqual(len(sorted_by(((0, k - 1),), words[:k])), k)
            self.assert_raises_just(NoMatch, sorted_by, ((0, k),), words[:k])
            self.assert_raises_just(NoMatch, sorted_by, ((0, 1), (k, 7)) if k < 7 else ((0, 7),), words[:k])
        self.assertEqual(sorted_by(((6, 7),), ["1", "0"] * 4), ["1", "0"] * 3 + ["0", "1"])


class FirstUnsortedTest(BitCase):
    def test_worked_row(self):
        self.assertEqual(first_unsorted(3, ((0, 1), (1, 2))), "110")
        self.assertEqual(first_unsorted(row=(), k=2), "10")
        self.assertIsNone(first_unsorted(2, ((0, 1),)))

    def test_rows_that_sort(self):
        for k, row in BUBBLES.items():
            self.assertIsNone(first_unsorted(k, row))
            self.assertIsNotNone(first_unsorted(k, row[:-1]))
        self.assertIsNone(first_unsorted(8, (BUBBLES[8] * 8)[:200]))
        self.assert_raises_just(NoRow, first_unsorted, 8, (BUBBLES[8] * 8)[:201])

    def test_made_rows(self):
        source = random.Random(124)
        found = set()
        for _ in range(200):
            k = source.randint(2, 6)
            pairs = list(itertools.combinations(range(k), 2))
            row = tuple(source.choice(pairs) for _ in range(source.randint(0, 20)))
            row += source.choice(((), BUBBLES[k]))
            left = [word for word in settled_words_of(k) if behind_by_definition(row, word, str) != sorted(word)]
            self.assertEqual(first_unsorted(k, row), left[0] if left else None)
            found.add((k, bool(left)))
        self.assertEqual(len(found), 10)

    def test_what_is_no_number_of_words(self):
        for k in [1, 0, 9, -1, 10 ** 12, True, False, None, "2", (2,), [2], {}]:
            for row in ((), ((0, 1),), None):
                self.assert_raises_just(NoCount, first_unsorted, k, row)

    def test_what_is_no_row(self):
        for k in (2, 8):
            for thing in NO_ROWS + [(pair,) for pair in NO_PAIRS]:
                self.assert_raises_just(NoRow, first_unsorted, k, thing)
            for thing in odd_things():
                if thing != ():
                    self.assert_raises_just(NoRow, first_unsorted, k, thing)
                self.assert_raises_just(NoRow, first_unsorted, k, (thing,))

    def test_numbers_that_the_words_have_not(self):
        for k in range(2, 8):
            self.assert_raises_just(NoRow, first_unsorted, k, ((0, k),))
            self.assert_raises_just(NoRow, first_unsorted, k, BUBBLES[k] + ((k - 1, k),))
        self.assertIsNone(first_unsorted(8, BUBBLES[8] + ((6, 7),)))


if __name__ == "__main__":
    unittest.main()
