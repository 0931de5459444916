"""Nets: inputs, gates in a row, and the numbers of those that are shown."""

from halfbits.counts import is_count
from halfbits.errors import NoMatch, NoNet
from halfbits.words import check_word

MOST_INPUTS = 32
MOST_GATES = 100000
MOST_OUTS = 32
PARTS = {"0": 1, "1": 1, "not": 2, "and": 3, "or": 3}
CONTRARY = {"0": "1", "1": "0", "?": "?"}
# What one input of such a gate settles, whatever the other one becomes.
DECISIVE = {"and": "0", "or": "1"}


def is_net(thing):
    """Tell whether a thing is a net."""
    if not isinstance(thing, tuple) or len(thing) != 3:
        return False
    n, gates, outs = thing
    if not is_count(n, 1, MOST_INPUTS):
        return False
    return are_gates(gates, n) and are_outs(outs, n + len(gates))


def are_gates(thing, n):
    """Tell whether a thing is a tuple of gates that can stand behind n inputs."""
    if not isinstance(thing, tuple) or len(thing) > MOST_GATES:
        return False
    for own, gate in enumerate(thing, start=n):
        if not is_gate(gate, own):
            return False
    return True


def is_gate(thing, own):
    """Tell whether a thing is a gate that can have the number own."""
    if not isinstance(thing, tuple) or len(thing) == 0:
        return False
    kind = thing[0]
    if not isinstance(kind, str) or len(thing) != PARTS.get(kind, 0):
        return False
    return all([is_count(number, 0, own - 1) for number in thing[1:]])


def are_outs(thing, many):
    """Tell whether a thing is a tuple of outs of a net with so many inputs and gates."""
    if not isinstance(thing, tuple) or not 1 <= len(thing) <= MOST_OUTS:
        return False
    return all([is_count(number, 0, many - 1) for number in thing])


def check_net(thing):
    """Raise NoNet for what is no net."""
    if not is_net(thing):
        raise NoNet("a net is a tuple of its number of inputs, its gates and its outs")


def run(net, word):
    """Return the word of what stands at the outs of a net when its inputs have the bits of a word."""
    check_net(net)
    check_word(word)
    if len(word) != net[0]:
        raise NoMatch("the word has another number of bits than the net has inputs")
    return told(net, word)


def told(net, word):
    """Return what run returns; the net and the word are not looked at again."""
    _, gates, outs = net
    bits = list(word)
    for gate in gates:
        bits.append(gate_bit(gate, bits))
    return "".join([bits[number] for number in outs])


def gate_bit(gate, bits):
    """Return what a gate lets through of the bits ahead of it."""
    kind = gate[0]
    if kind == "not":
        return CONTRARY[bits[gate[1]]]
    if kind in DECISIVE:
        return weighed(DECISIVE[kind], bits[gate[1]], bits[gate[2]])
    return kind


def weighed(decisive, first, second):
    """Return the decisive bit if one of two is it, what both are if they are alike, else "?"."""
    if decisive in (first, second):
        return decisive
    return first if first == second else "?"
