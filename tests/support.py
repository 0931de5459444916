"""What several test files share."""

import itertools
import unittest


class BitCase(unittest.TestCase):
    """A test case that asks for one very class of error."""

    def assert_raises_just(self, error, function, *arguments, **named):
        with self.assertRaises(error) as caught:
            function(*arguments, **named)
        self.assertIs(type(caught.exception), error)
        self.assertIsInstance(str(caught.exception), str)


def words_of(bits):
    """All words of so many bits, ascending."""
    return ["".join(signs) for signs in itertools.product("01?", repeat=bits)]


def settled_words_of(bits):
    """All settled words of so many bits, ascending."""
    return ["".join(signs) for signs in itertools.product("01", repeat=bits)]


def settlings_by_definition(word):
    """The settled words that agree with a word but at its "?", picked out of all of them."""
    return [
        settled
        for settled in settled_words_of(len(word))
        if all(sign in ("?", bit) for sign, bit in zip(word, settled))
    ]


def nested(kind, depth):
    """Tuples or lists, one in the other."""
    thing = kind()
    for _ in range(depth):
        thing = kind([thing])
    return thing


def odd_things():
    """Things of all kinds, none of which is a word, a net or any other value of the package."""
    deep_dict = {}
    for _ in range(29):
        deep_dict = {"a": deep_dict}
    shared = [0]
    return [
        None, True, False, 0, 1, -1, 10 ** 12, -10 ** 12,
        "", " ", "~", "a", "o", "2", "-1", "0" * 33, "?" * 1000, "01?x", "01 ", " 01", "and", "None",
        (), (0,), ("0",), ("0", "1"), (None,), (True,), ((),), ((), (), ()), (1, 2, 3), ("1", (), (0,)),
        [], [0], ["0"], ["0", "1"], [None], [[]], [shared, shared],
        {}, {"0": "1"}, {0: 1}, {"n": 1, "gates": (), "outs": (0,)}, {1: (), (): (0,), (0,): 1}, {"0": []},
        nested(tuple, 30), nested(list, 30), nested(tuple, 300), nested(list, 300), deep_dict,
        tuple(range(100000)), list(range(100000)), {number: None for number in range(50000)},
        ("01",) * 100000, (nested(tuple, 28), nested(list, 28), deep_dict),
    ]
