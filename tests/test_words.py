"""Promises [1] and [2]: words."""

import itertools
import unittest

from halfbits.errors import NoMatch, NoWord, TooGreat
from halfbits.words import is_within, is_word, joined, met, settlings
from tests.support import NO_WORDS, BitCase, odd_things, settled_words_of, settlings_by_definition, words_of


class IsWordTest(BitCase):
    def test_all_short_words(self):
        for bits in (1, 2, 3):
            for word in words_of(bits):
                self.assertIs(is_word(word), True)

    def test_number_of_signs(self):
        for sign in "01?":
            self.assertIs(is_word(sign), True)
            self.assertIs(is_word(sign * 32), True)
            self.assertIs(is_word(sign * 33), False)
        self.assertIs(is_word(""), False)
        self.assertIs(is_word("01?" * 10 + "0?"), True)
        self.assertIs(is_word("01?" * 11), False)

    def test_other_signs(self):
        for code in range(32, 127):
            sign = chr(code)
            self.assertIs(is_word(sign), sign in "01?", sign)
            for text in ("0" + sign, sign + "1", "?" + sign + "0", "0" * 31 + sign):
                self.assertIs(is_word(text), sign in "01?", text)

    def test_things_of_all_kinds(self):
        for thing in odd_things() + NO_WORDS:
            self.assertIs(is_word(thing), False)

    def test_by_name(self):
        self.assertIs(is_word(thing="0?"), True)


class SettlingsTest(BitCase):
    def test_ordinary_words(self):
        self.assertEqual(settlings("0?"), ["00", "01"])
        self.assertEqual(settlings("?1?"), ["010", "011", "110", "111"])
        self.assertEqual(settlings("10"), ["10"])

    def test_all_short_words(self):
        for bits in range(1, 6):
            for word in words_of(bits):
                self.assertEqual(settlings(word), settlings_by_definition(word))

    def test_eight_open_bits(self):
        self.assertEqual(settlings("????????"), settled_words_of(8))
        apart = "?0" * 8
        self.assertEqual(settlings(apart), sorted("".join(bit + "0" for bit in row) for row in settled_words_of(8)))
        self.assertEqual(settlings("1" * 24 + "?" * 8), ["1" * 24 + row for row in settled_words_of(8)])

    def test_nine_open_bits(self):
        for word in ("?" * 9, "?0" * 9, "1" * 23 + "?" * 9, "?" * 32):
            self.assert_raises_just(TooGreat, settlings, word)

    def test_settled_words_of_any_length(self):
        self.assertEqual(settlings("01" * 16), ["01" * 16])

    def test_what_is_no_word(self):
        for thing in NO_WORDS:
            self.assert_raises_just(NoWord, settlings, thing)

    def test_lists_are_new(self):
        first = settlings("0?")
        second = settlings("0?")
        self.assertIsNot(first, second)
        first.append("11")
        self.assertEqual(second, ["00", "01"])
        self.assertEqual(settlings(word="0?"), ["00", "01"])


class IsWithinTest(BitCase):
    def test_both_ways(self):
        self.assertIs(is_within("01", "0?"), True)
        self.assertIs(is_within("0?", "01"), False)
        self.assertIs(is_within("0?", "?1"), False)
        self.assertIs(is_within("?1", "0?"), False)
        self.assertIs(is_within("00", "01"), False)
        self.assertIs(is_within("??", "??"), True)

    def test_all_short_words(self):
        for bits in (1, 2, 3):
            for word, other in itertools.product(words_of(bits), repeat=2):
                expected = set(settlings_by_definition(word)) <= set(settlings_by_definition(other))
                self.assertIs(is_within(word, other), expected, (word, other))

    def test_long_words(self):
        self.assertIs(is_within("01" * 16, "?" * 32), True)
        self.assertIs(is_within("?" * 32, "?" * 31 + "0"), False)

    def test_by_name(self):
        self.assertIs(is_within(other="0?", word="01"), True)
        self.assertIs(is_within(word="0?", other="01"), False)

    def test_unlike_numbers_of_bits(self):
        for word, other in (("0", "00"), ("00", "0"), ("?", "??"), ("1" * 32, "1" * 31)):
            self.assert_raises_just(NoMatch, is_within, word, other)

    def test_what_is_no_word(self):
        for thing in NO_WORDS:
            self.assert_raises_just(NoWord, is_within, thing, "0?")
            self.assert_raises_just(NoWord, is_within, "0?", thing)
            self.assert_raises_just(NoWord, is_within, thing, thing)


class JoinedTest(BitCase):
    def test_ordinary_words(self):
        self.assertEqual(joined(["010", "000"]), "0?0")
        self.assertEqual(joined(["0?1"]), "0?1")
        self.assertEqual(joined(["01", "01", "01"]), "01")
        self.assertEqual(joined(["0?", "0?"]), "0?")
        self.assertEqual(joined(["?", "1"]), "?")
        self.assertEqual(joined(["1", "?"]), "?")
        self.assertEqual(joined(["000", "010", "011"]), "0??")
        self.assertEqual(joined(["1" * 32, "1" * 31 + "0"]), "1" * 31 + "?")

    def test_is_the_least_word_that_they_all_are_within(self):
        for words in itertools.product(words_of(2), repeat=3):
            settled = {row for word in words for row in settlings_by_definition(word)}
            around = [word for word in words_of(2) if settled <= set(settlings_by_definition(word))]
            least = min(around, key=lambda word: len(settlings_by_definition(word)))
            self.assertEqual(joined(list(words)), least, words)

    def test_many_words(self):
        self.assertEqual(joined(["01?"] * 1000), "01?")
        self.assertEqual(joined(["010"] * 999 + ["011"]), "01?")
        self.assertEqual(joined(["110"] + ["010"] * 999), "?10")
        self.assertEqual(joined(settled_words_of(9)), "?" * 9)

    def test_number_of_words(self):
        self.assertEqual(joined(["0"] * 1000), "0")
        self.assertEqual(joined(["0"] * 999 + ["1"]), "?")
        for words in (["0"] * 1001, ["01?"] * 1001, ["0"] * 1000 + ["1"], settled_words_of(10), ["?"] * 100000):
            self.assert_raises_just(NoWord, joined, words)
        self.assert_raises_just(NoWord, joined, [])

    def test_too_many_words_come_ahead_of_unlike_numbers(self):
        for words in (["0"] * 1000 + ["00"], ["00"] + ["0"] * 1000, ["0", "00"] * 501):
            self.assert_raises_just(NoWord, joined, words)
        for words in (["0"] * 999 + ["00"], ["00"] + ["0"] * 999, ["0", "00"] * 500):
            self.assert_raises_just(NoMatch, joined, words)

    def test_what_is_no_list_of_words(self):
        for thing in [None, True, 0, "", "01", ("01",), ("0", "1"), (), {}, {"0": "1"}, {0: "0"}, []]:
            self.assert_raises_just(NoWord, joined, thing)

    def test_lists_with_something_that_is_no_word(self):
        for thing in NO_WORDS:
            for words in ([thing], [thing, "0"], ["0", thing], ["0", "1", thing, "?"]):
                self.assert_raises_just(NoWord, joined, words)

    def test_unlike_numbers_of_bits(self):
        for words in (["0", "00"], ["00", "0"], ["01", "01", "0"], ["?", "??", "???"], ["01", "01", "011", "01"]):
            self.assert_raises_just(NoMatch, joined, words)

    def test_no_word_comes_ahead_of_unlike_numbers(self):
        self.assert_raises_just(NoWord, joined, ["0", "00", "x"])
        self.assert_raises_just(NoWord, joined, ["0", "00", None])

    def test_the_list_is_not_changed(self):
        words = ["01", "0?", "11"]
        self.assertEqual(joined(words), "??")
        self.assertEqual(joined(words=words), "??")
        self.assertEqual(words, ["01", "0?", "11"])


class MetTest(BitCase):
    def test_with_a_common_settling(self):
        self.assertEqual(met("0?", "?1"), "01")
        self.assertEqual(met("?1", "0?"), "01")
        self.assertEqual(met("??", "?0"), "?0")
        self.assertEqual(met("??", "??"), "??")
        self.assertEqual(met("01", "01"), "01")
        self.assertEqual(met("?" * 32, "01" * 16), "01" * 16)

    def test_without_a_common_settling(self):
        self.assertIsNone(met("0", "1"))
        self.assertIsNone(met("0?", "1?"))
        self.assertIsNone(met("?1?", "?0?"))
        self.assertIsNone(met("?" * 31 + "0", "?" * 31 + "1"))

    def test_all_short_words(self):
        for bits in (1, 2, 3):
            for word, other in itertools.product(words_of(bits), repeat=2):
                common = set(settlings_by_definition(word)) & set(settlings_by_definition(other))
                found = met(word, other)
                if found is None:
                    self.assertEqual(common, set(), (word, other))
                else:
                    self.assertEqual(set(settlings_by_definition(found)), common, (word, other))

    def test_by_name(self):
        self.assertEqual(met(other="1?", word="??"), "1?")

    def test_unlike_numbers_of_bits(self):
        for word, other in (("0", "00"), ("00", "0"), ("0", "11"), ("?" * 31, "?" * 32)):
            self.assert_raises_just(NoMatch, met, word, other)

    def test_what_is_no_word(self):
        for thing in NO_WORDS:
            self.assert_raises_just(NoWord, met, thing, "0?")
            self.assert_raises_just(NoWord, met, "0?", thing)
            self.assert_raises_just(NoWord, met, thing, thing)


if __name__ == "__main__":
    unittest.main()
