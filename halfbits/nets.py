"""Nets: inputs, gates in a row, and the numbers of those that are shown."""

from halfbits.counts import is_count
from halfbits.errors import NoMatch, NoNet
from halfbits.words import check_word

MOST_INPUTS = 32
MOST_GATES = 100000
MOST_OUTS = 32
PARTS = {"0": 1, "1": 1, "not": 2, "and": 3, "or": 3}
# What such a gate of no inputs at all would tell.
OF_NONE = {"and": "1", "or": "0"}


def is_net(thing):
    """Tell whether a thing is a net."""
    if not isinstance(thing, tuple) or len(thing) != 3:
        return False
    n, gates, outs = thing
    if not is_count(n, 1, MOST_INPUTS):
        return False
    return are_gates(gates, n) and are_outs(outs, n + len(gates))


def are_gates(thing, n):
    """Tell whether a thing is a tuple of gates that can stand behind n inputs."""
    if not isinstance(thing, tuple) or len(thing) > MOST_GATES:
        return False
    for own, gate in enumerate(thing, start=n):
        if not is_gate(gate, own):
            return False
    return True


def is_gate(thing, own):
    """Tell whether a thing is a gate that can have the number own."""
    if not isinstance(thing, tuple) or len(thing) == 0:
        return False
    kind = thing[0]
    if not isinstance(kind, str) or len(thing) != PARTS.get(kind, 0):
        return False
    return all([is_count(number, 0, own - 1) for number in thing[1:]])


def are_outs(thing, many):
    """Tell whether a thing is a tuple of outs of a net with so many inputs and gates."""
    if not isinstance(thing, tuple) or not 1 <= len(thing) <= MOST_OUTS:
        return False
    return all([is_count(number, 0, many - 1) for number in thing])


def check_net(thing):
    """Raise NoNet for what is no net."""
    if not is_net(thing):
        raise NoNet("a net is a tuple of its number of inputs, its gates and its outs")


def run(net, word):
    """Return the word of what stands at the outs of a net when its inputs have the bits of a word."""
    check_net(net)
    return told_at(net, word)


def told_at(net, word):
    """Return what run returns; the net is not looked at again."""
    check_word(word)
    if len(word) != net[0]:
        raise NoMatch("the word has another number of bits than the net has inputs")
    return answers_at(net, [word])[0]


def answers_at(net, words):
    """Return the list of what a net tells at each of some words; net and words are not looked at again.

    The net goes through all words at once. What stands at a number is a pair of integers: the first one
    has its bit k set if "1" stands there at words[k], the second one if "0" stands there, neither for "?".
    """
    n, gates, outs = net
    stands = [(marked(words, at, "1"), marked(words, at, "0")) for at in range(n)]
    everywhere = (1 << len(words)) - 1
    for gate in gates:
        stands.append(let_through(gate, stands, everywhere))
    shown = [stands[number] for number in outs]
    return ["".join([sign_at(pair, k) for pair in shown]) for k in range(len(words))]


def marked(words, at, bit):
    """Return the integer whose bit k is set if words[k] has such a bit at a place."""
    return sum([1 << k for k, word in enumerate(words) if word[at] == bit])


def let_through(gate, stands, everywhere):
    """Return the pair of what a gate lets through of the pairs ahead of it."""
    kind = gate[0]
    if kind == "0":
        return (0, everywhere)
    if kind == "1":
        return (everywhere, 0)
    ones, zeros = stands[gate[1]]
    if kind == "not":
        return (zeros, ones)
    other_ones, other_zeros = stands[gate[2]]
    if kind == "and":
        return (ones & other_ones, zeros | other_zeros)
    return (ones | other_ones, zeros & other_zeros)


def sign_at(pair, k):
    """Return the sign that a pair has at the word with the number k."""
    ones, zeros = pair
    if (ones >> k) & 1:
        return "1"
    return "0" if (zeros >> k) & 1 else "?"


class NetMaker:
    """A net that is made gate by gate; a gate that stands already is not put again."""

    def __init__(self, n):
        self.n = n
        self.numbers = {}

    def put(self, gate):
        """Put a gate behind the others unless it stands, and return its number."""
        if gate not in self.numbers:
            self.numbers[gate] = self.n + len(self.numbers)
        return self.numbers[gate]

    def gathered(self, kind, numbers):
        """Return the number that tells the "and" or the "or" of what stands at some numbers."""
        if len(numbers) == 0:
            return self.put((OF_NONE[kind],))
        told = numbers[0]
        for number in numbers[1:]:
            told = self.put((kind, told, number))
        return told

    def product(self, word):
        """Return the number that tells the product of the settled bits of a word of n bits."""
        parts = [
            at if bit == "1" else self.put(("not", at))
            for at, bit in enumerate(word)
            if bit != "?"
        ]
        return self.gathered("and", parts)

    def sum_of(self, words):
        """Return the number that tells the "or" of the products of words of n bits."""
        return self.gathered("or", [self.product(word) for word in words])

    def placed(self, net, numbers):
        """Put a net over what stands at some numbers, taken as its inputs, and return the numbers of its outs."""
        _, gates, outs = net
        own = list(numbers)
        for gate in gates:
            own.append(self.put(gate[:1] + tuple([own[number] for number in gate[1:]])))
        return [own[number] for number in outs]

    def net(self, outs):
        """Return the net that was made, with such outs."""
        return (self.n, tuple(self.numbers), tuple(outs))
