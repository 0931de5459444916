"""Machines: nets that run once in each round on what stores are read as, and write to some of them."""

from halfbits.demands import keeps_to
from halfbits.errors import NoKind, NoMachine, NoMatch, TooGreat
from halfbits.nets import MOST_GATES, NetMaker, answers_at, is_net
from halfbits.stores import MOST_STORES, are_kinds, check_half_demand, check_rounds
from halfbits.words import all_words, check_word, spelled

MOST_INNER = 2
MOST_TOLD = 3


def is_machine(thing):
    """Tell whether a thing is a machine."""
    if not isinstance(thing, tuple) or len(thing) != 3:
        return False
    kinds, inner, net = thing
    if not are_kinds(kinds, 1, MOST_STORES) or not are_kinds(inner, 0, MOST_INNER) or not is_net(net):
        return False
    return net[0] == len(kinds) + len(inner) and 1 <= len(net[2]) - len(inner) <= MOST_TOLD


def check_machine(thing):
    """Raise NoMachine for what is no machine."""
    if not is_machine(thing):
        raise NoMachine("a machine is a tuple of kinds of stores, kinds of inner stores, and a net for both")


def told_bits(machine):
    """Return the number of bits that a machine tells."""
    _, inner, net = machine
    return len(net[2]) - len(inner)


def answers_of(machine):
    """Return the dict of what the net of a machine tells at all words that can be read."""
    net = machine[2]
    words = all_words(net[0])
    return dict(zip(words, answers_at(net, words)))


def outcomes(machine, word, r):
    """Return the ascending list of all words that a machine can tell in round r."""
    check_machine(machine)
    check_word(word)
    if len(word) != len(machine[0]):
        raise NoMatch("the word has another number of bits than the machine has inputs")
    check_rounds(r)
    return outcomes_at(machine, answers_of(machine), word, r)


def outcomes_at(machine, answers, word, r):
    """Return what outcomes returns, with the answers of the machine; nothing is looked at again."""
    held = [word + "0" * len(machine[1])]
    told = []
    for _ in range(r):
        ends = {end: True for bits in held for end in ends_of_round(machine, answers, bits)}
        held = sorted({after for after, _ in ends})
        told = sorted({shown for _, shown in ends})
    return told


def ends_of_round(machine, answers, bits):
    """Return the list of what can stand behind a round in which stores hold some bits: (held, told)."""
    kinds, inner, _ = machine
    ends = []
    for turn in spelled([turns_of(kind, bit) for kind, bit in zip(kinds + inner, bits)]):
        answer = answers[turn[::2]]
        # What the inner stores would go on holding is written over.
        held = turn[1::2][:len(kinds)] + answer[:len(inner)]
        ends.append((held, answer[len(inner):]))
    return ends


def turns_of(kind, bit):
    """Return the list of the ways in which a store is read once: what is read, then what it holds from then on."""
    if bit != "?" or kind == "plain":
        return [bit + bit]
    return ["0?", "?1", "11"] if kind == "low" else ["1?", "?0", "00"]


def first_wrong(demand, machine, r):
    """Return the first number of a wish and told word that does not keep to its lets in round r, or None."""
    check_half_demand(demand)
    check_machine(machine)
    n, m, wishes = demand
    if len(machine[0]) != n or told_bits(machine) != m:
        raise NoMatch("the machine has other numbers of inputs or of told bits than the demand")
    check_rounds(r)
    answers = answers_of(machine)
    for number, (word, lets) in enumerate(wishes):
        for told in outcomes_at(machine, answers, word, r):
            if not keeps_to(told, lets):
                return (number, told)
    return None


def first_unlike(machine, other, r):
    """Return the first word at which the outcomes of two machines in round r are unlike, or None."""
    check_machine(machine)
    check_machine(other)
    if len(machine[0]) != len(other[0]) or told_bits(machine) != told_bits(other):
        raise NoMatch("the machines have unlike numbers of inputs or of told bits")
    check_rounds(r)
    answers, other_answers = answers_of(machine), answers_of(other)
    for word in all_words(len(machine[0])):
        if outcomes_at(machine, answers, word, r) != outcomes_at(other, other_answers, word, r):
            return word
    return None


def unrolled(machine, r):
    """Return a net that tells, of r reads of each input, what a machine with plain inner stores tells in round r."""
    check_machine(machine)
    kinds, inner, net = machine
    if not all([kind == "plain" for kind in inner]):
        raise NoKind("only machines with plain inner stores are unrolled")
    check_rounds(r)
    # The gate more tells the "0" that inner stores hold at the beginning.
    if r * len(net[1]) + 1 > MOST_GATES:
        raise TooGreat("the net would have more than 100000 gates")
    maker = NetMaker(r * len(kinds))
    shown = [maker.put(("0",)) for _ in inner]
    for turn in range(r):
        read = [r * number + turn for number in range(len(kinds))]
        shown = maker.placed(net, read + shown[:len(inner)])
    return maker.net(shown[len(inner):])
