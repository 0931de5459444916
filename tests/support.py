"""What several test files share."""

import itertools
import unittest

NO_WORDS = [
    None, True, False, 0, 1, -10 ** 12, "", "2", "x", "01x", "0 1", "0\n", "0" * 33, "?" * 33, "0" * 1000,
    ("0",), ["0"], ("0", "1"), {}, {"0": "1"}, (), [],
]
NO_NETS = [
    (), (1,), (1, ()), (1, (), (0,), ()), [1, (), (0,)], (1, [], (0,)), (1, (), [0]), (1, (["not", 0],), (1,)),
    {}, "net", None, True, 3, (None, (), (0,)), ("1", (), (0,)), (1, None, (0,)), (1, (), None), (1, {}, (0,)),
    (1, (), 0), (1, (), "0"), (1, "", (0,)), (1, (), ("0",)), (1, (), (None,)), (1, (), ((0,),)), ((1,), (), (0,)),
]
NO_DEMANDS = [
    (1, 1, ()), (1, 1, (("0", ()),)), (1, 1, [("0", ("0",))]), [1, 1, (("0", ("0",)),)], (1, 1, (["0", ("0",)],)),
    (1, 1, (("0", ["0"]),)), (1, 1, (("0", "0"),)), (1, 1, (("0", ("0", "0")),)), (1, 1, (("00", ("0",)),)),
    (1, 1, (("0", ("00",)),)), (True, 1, (("0", ("0",)),)), (1, True, (("0", ("0",)),)), (0, 1, (("0", ("0",)),)),
    (5, 1, (("00000", ("0",)),)), (1, 4, (("0", ("0000",)),)), (1, 1, (("0", ("0",)), ("0", ("1",)))), None, "01",
    (1, 1, (("0", ("0",)),), ()), (1, 1, (("0", ("0",), ()),)), (1, 1, (("0",),)), (1, 1, ("01",)), (1, 1, None),
    (1, 1), (1, (("0", ("0",)),)), (1, 1, {"0": ("0",)}), (1, 1, (None,)), (1, 1, (("0", None),)), (1, 1, ((0, ("0",)),)),
    (1, 1, (("0", (0,)),)), (1, 1, (("0", (None,)),)), (1, 1, (("x", ("0",)),)), (1, 1, (("0", ("x",)),)), 1, True,
]


class BitCase(unittest.TestCase):
    """A test case that asks for one very class of error."""

    def assert_raises_just(self, error, function, *arguments, **named):
        with self.assertRaises(error) as caught:
            function(*arguments, **named)
        self.assertIs(type(caught.exception), error)
        self.assertIsInstance(str(caught.exception), str)


def words_of(bits):
    """All words of so many bits, ascending."""
    return ["".join(signs) for signs in itertools.product("01?", repeat=bits)]


def settled_words_of(bits):
    """All settled words of so many bits, ascending."""
    return ["".join(signs) for signs in itertools.product("01", repeat=bits)]


def settlings_by_definition(word):
    """The settled words that agree with a word but at its "?", picked out of all of them."""
    return [
        settled
        for settled in settled_words_of(len(word))
        if all(sign in ("?", bit) for sign, bit in zip(word, settled))
    ]


def is_within_by_definition(word, other):
    """Whether all settlings of a word are settlings of the other."""
    return set(settlings_by_definition(word)) <= set(settlings_by_definition(other))


def meet(word, other):
    """Whether two words have a common settling."""
    return bool(set(settlings_by_definition(word)) & set(settlings_by_definition(other)))


def joined_by_definition(words):
    """The signs that all words have at each bit, else "?"."""
    return "".join(signs[0] if len(set(signs)) == 1 else "?" for signs in zip(*words))


def made_net(source, n, many):
    """A net with n inputs and so many gates, picked by a source of numbers."""
    gates = []
    for own in range(n, n + many):
        kind = source.choice(["0", "1", "not", "and", "and", "or", "or"])
        parts = {"0": 0, "1": 0, "not": 1}.get(kind, 2)
        gates.append((kind, *[source.randrange(own) for _ in range(parts)]))
    return (n, tuple(gates), tuple(source.randrange(n + many) for _ in range(source.randint(1, 5))))


def made_table(source, n, bits):
    """A table with n inputs and so many outs, picked by a source of numbers."""
    return (n, tuple("".join(source.choice("01") for _ in range(bits)) for _ in range(2 ** n)))


def made_telling(source, n, bits):
    """A natural telling with n inputs and so many outs, picked by a source of numbers.

    What the words with one "?" less tell is joined, and now and then left open where it need not be.
    """
    told = dict(zip(settled_words_of(n), made_table(source, n, bits)[1]))
    for word in sorted(words_of(n), key=lambda word: word.count("?")):
        if "?" in word:
            narrower = [word[:at] + bit + word[at + 1:] for at in range(n) if word[at] == "?" for bit in "01"]
            sure = joined_by_definition([told[other] for other in narrower])
            told[word] = "".join("?" if source.random() < 0.2 else sign for sign in sure)
    return (n, tuple(told[word] for word in words_of(n)))


def signs_exchanged(word, at):
    """A word with 0 exchanged for 1 at a place."""
    return word[:at] + {"0": "1", "1": "0", "?": "?"}[word[at]] + word[at + 1:]


def demand_with(demand, word_change, let_change):
    """A demand with all its words and all its lets changed."""
    n, m, wishes = demand
    return (n, m, tuple(
        (word_change(word), tuple(let_change(let) for let in lets)) for word, lets in wishes
    ))


def nested(kind, depth):
    """Tuples or lists, one in the other."""
    thing = kind()
    for _ in range(depth):
        thing = kind([thing])
    return thing


def odd_things():
    """Things of all kinds, none of which is a word, a net or any other value of the package."""
    deep_dict = {}
    for _ in range(29):
        deep_dict = {"a": deep_dict}
    shared = [0]
    return [
        None, True, False, 0, 1, -1, 10 ** 12, -10 ** 12,
        "", " ", "~", "a", "o", "2", "-1", "0" * 33, "?" * 1000, "01?x", "01 ", " 01", "and", "None",
        (), (0,), ("0",), ("0", "1"), (None,), (True,), ((),), ((), (), ()), (1, 2, 3), ("1", (), (0,)),
        [], [0], ["0"], ["0", "1"], [None], [[]], [shared, shared],
        {}, {"0": "1"}, {0: 1}, {"n": 1, "gates": (), "outs": (0,)}, {1: (), (): (0,), (0,): 1}, {"0": []},
        nested(tuple, 30), nested(list, 30), nested(tuple, 300), nested(list, 300), deep_dict,
        tuple(range(100000)), list(range(100000)), {number: None for number in range(50000)},
        ("01",) * 100000, (nested(tuple, 28), nested(list, 28), deep_dict),
    ]
