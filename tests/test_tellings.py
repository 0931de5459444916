"""Promises [1] and [7]: natural tellings."""

import itertools
import random
import unittest

from halfbits.errors import NoTelling
from halfbits.nets import is_net
from halfbits.tables import telling_of
from halfbits.tellings import net_of, why_not
from tests.support import (
    NO_NETS, BitCase, is_within_by_definition, made_net, made_telling, odd_things, words_of,
)

NO_TELLINGS = [
    None, True, 1, "", "01?", (), (1,), [1, ("0", "1", "?")], (1, ["0", "1", "?"]), (1, ("0", "1")), (0, ("0",)),
    (1, ("0", "1", "?", "?")), (True, ("0", "1", "?")), (1, ("0", "1", "??")), (1, ("0", "1", 0)), (1, ("0", "1", "")),
    (6, ("0",) * 729), (1, ("0" * 33, "1" * 33, "?" * 33)), (2, ("0", "1", "?")), (1, "01?"), (2, ("0",) * 8),
]


def why_not_by_definition(telling):
    """The first pair of words, of all pairs in ascending order, that shows that a telling is not natural."""
    n, rows = telling
    told = dict(zip(words_of(n), rows))
    for word, other in itertools.product(words_of(n), repeat=2):
        if word == other and "?" not in word and "?" in told[word]:
            return (word, other)
        is_next = other.count("?") == word.count("?") + 1 and is_within_by_definition(word, other)
        if is_next and not is_within_by_definition(told[word], told[other]):
            return (word, other)
    return None


def is_natural_by_definition(telling):
    """Whether a telling is settled at settled words, and tells within what it tells at wider ones."""
    n, rows = telling
    told = dict(zip(words_of(n), rows))
    if any("?" in told[word] for word in told if "?" not in word):
        return False
    return all(
        is_within_by_definition(told[word], told[other])
        for word, other in itertools.product(told, repeat=2)
        if is_within_by_definition(word, other)
    )


def with_row(telling, at, row):
    """A telling with another answer in one place."""
    n, rows = telling
    return (n, rows[:at] + (row,) + rows[at + 1:])


class WhyNotTest(BitCase):
    def test_natural_tellings(self):
        for telling in ((1, ("0", "1", "?")), (1, ("1", "1", "1")), (1, ("1", "1", "?")), (1, ("01", "00", "0?")),
                        (2, ("0", "0", "0", "0", "1", "?", "0", "?", "?"))):
            self.assertIsNone(why_not(telling), telling)

    def test_open_bits_at_settled_words(self):
        self.assertEqual(why_not((1, ("?", "1", "?"))), ("0", "0"))
        self.assertEqual(why_not((1, ("0", "?", "?"))), ("1", "1"))
        self.assertEqual(why_not((1, ("?", "?", "?"))), ("0", "0"))
        self.assertEqual(why_not((1, ("00", "1?", "??"))), ("1", "1"))
        telling = (2, tuple("?" if "?" in word else "0" for word in words_of(2)))
        for at, word in enumerate(words_of(2)):
            self.assertEqual(why_not(with_row(telling, at, "?")), None if "?" in word else (word, word))

    def test_answers_that_are_not_within(self):
        self.assertEqual(why_not((1, ("0", "1", "0"))), ("1", "?"))
        self.assertEqual(why_not((1, ("0", "1", "1"))), ("0", "?"))
        self.assertEqual(why_not((1, ("0", "0", "1"))), ("0", "?"))
        self.assertEqual(why_not((1, ("01", "11", "?0"))), ("0", "?"))
        self.assertEqual(why_not((1, ("01", "10", "0?"))), ("1", "?"))
        narrow = ("0", "0", "0", "0", "0", "0", "0", "?", "0")
        self.assertEqual(why_not((2, narrow)), ("?1", "??"))

    def test_first_of_several_pairs(self):
        self.assertEqual(why_not((1, ("?", "1", "0"))), ("0", "0"))
        self.assertEqual(why_not((1, ("0", "?", "1"))), ("0", "?"))
        self.assertEqual(why_not((1, ("1", "?", "1"))), ("1", "1"))
        self.assertEqual(why_not((2, ("0", "0", "1", "0", "0", "0", "1", "0", "0"))), ("00", "0?"))
        self.assertEqual(why_not((2, ("0", "0", "0", "0", "0", "0", "1", "0", "0"))), ("00", "?0"))
        self.assertEqual(why_not((2, ("0", "0", "?", "0", "0", "?", "?", "?", "0"))), ("0?", "??"))

    def test_all_tellings_of_one_input(self):
        for rows in itertools.product("01?", repeat=3):
            self.assertEqual(why_not((1, rows)), why_not_by_definition((1, rows)), rows)
        for rows in itertools.product(words_of(2), repeat=3):
            self.assertEqual(why_not((1, rows)), why_not_by_definition((1, rows)), rows)

    def test_made_tellings_with_an_answer_exchanged(self):
        source = random.Random(30)
        found = set()
        for _ in range(150):
            n, bits = source.randint(2, 3), source.randint(1, 3)
            telling = made_telling(source, n, bits)
            self.assertIsNone(why_not(telling), telling)
            for _ in range(source.randint(1, 2)):
                row = "".join(source.choice("01?") for _ in range(bits))
                telling = with_row(telling, source.randrange(3 ** n), row)
            expected = why_not_by_definition(telling)
            self.assertEqual(why_not(telling), expected, telling)
            self.assertIs(expected is None, is_natural_by_definition(telling))
            found.add(None if expected is None else expected[0] == expected[1])
        self.assertEqual(found, {None, True, False})

    def test_five_inputs(self):
        telling = (5, tuple("?" if "?" in word else "1" for word in words_of(5)))
        self.assertIsNone(why_not(telling))
        self.assertEqual(why_not(with_row(telling, 242, "1")), ("0????", "?????"))
        self.assertEqual(why_not(with_row(telling, 0, "0")), None)
        self.assertEqual(why_not(with_row(telling, 0, "?")), ("00000", "00000"))
        self.assertIsNone(why_not((5, ("1",) * 243)))

    def test_pairs_are_tuples_and_arguments_have_names(self):
        pair = why_not(telling=(1, ("0", "1", "0")))
        self.assertIs(type(pair), tuple)
        self.assertEqual(len(pair), 2)

    def test_what_is_no_telling(self):
        for thing in NO_TELLINGS + NO_NETS + odd_things():
            self.assert_raises_just(NoTelling, why_not, thing)

    def test_tellings_of_nets_are_natural(self):
        source = random.Random(31)
        for _ in range(60):
            self.assertIsNone(why_not(telling_of(made_net(source, source.randint(1, 5), source.randint(0, 20)))))


class NetOfTest(BitCase):
    def assert_has_net(self, telling):
        net = net_of(telling)
        self.assertIs(is_net(net), True)
        self.assertEqual(telling_of(net), telling)

    def test_all_tellings_of_one_input(self):
        natural = 0
        for rows in itertools.product(words_of(2), repeat=3):
            if is_natural_by_definition((1, rows)):
                natural += 1
                self.assert_has_net((1, rows))
            else:
                self.assertIsNone(net_of((1, rows)), rows)
        # Of one out: two tables whose answers are unlike, two whose answers are alike and told or left open.
        self.assertEqual(natural, (2 + 2 * 2) ** 2)

    def test_all_tellings_of_two_inputs_settled_at_settled_words(self):
        natural = 0
        for four in itertools.product("01", repeat=4):
            for five in itertools.product("01?", repeat=5):
                rows = (*four[:2], five[0], *four[2:], *five[1:])
                if is_natural_by_definition((2, rows)):
                    natural += 1
                    self.assert_has_net((2, rows))
                else:
                    self.assertIsNone(net_of((2, rows)), rows)
        self.assertGreater(natural, 16)

    def test_not_natural(self):
        for telling in ((1, ("?", "1", "?")), (1, ("0", "1", "0")), (2, ("0",) * 8 + ("1",)), (5, ("?",) * 243)):
            self.assertIsNone(net_of(telling), telling)

    def test_made_tellings(self):
        source = random.Random(32)
        for n in range(1, 6):
            for bits in (1, 2, 3, 3, 32):
                self.assert_has_net(made_telling(source, n, bits))

    def test_dull_and_constant_tellings(self):
        for n in range(1, 6):
            self.assert_has_net((n, ("0110",) * 3 ** n))
            self.assert_has_net((n, tuple("??" if "?" in word else "01" for word in words_of(n))))
            self.assert_has_net((n, tuple("?" if "?" in word else "01"[word.count("1") % 2] for word in words_of(n))))

    def test_by_name(self):
        self.assertEqual(telling_of(net_of(telling=(1, ("1", "1", "?")))), (1, ("1", "1", "?")))

    def test_what_is_no_telling(self):
        for thing in NO_TELLINGS + NO_NETS + odd_things():
            self.assert_raises_just(NoTelling, net_of, thing)


if __name__ == "__main__":
    unittest.main()
