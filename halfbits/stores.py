"""Stores that are read several times, and plans: nets that run on what is read of stores."""

from halfbits.counts import is_count
from halfbits.demands import is_demand, keeps_to
from halfbits.errors import NoCount, NoDemand, NoKind, NoMatch, NoPlan
from halfbits.nets import answers_at, is_net
from halfbits.words import check_word, spelled

KINDS = ("plain", "low", "high")
BITS = ("0", "1", "?")
MOST_STORES = 3
MOST_READS = 8


def check_rounds(thing):
    """Raise NoCount for what is no number of reads or rounds."""
    if not is_count(thing, 1, MOST_READS):
        raise NoCount("there are from 1 to 8 reads or rounds")


def are_kinds(thing, least, most):
    """Tell whether a thing is a tuple of kinds of stores, neither too few nor too many."""
    if not isinstance(thing, tuple) or not least <= len(thing) <= most:
        return False
    return all([kind in KINDS for kind in thing])


def is_half_demand(thing):
    """Tell whether a thing is a half demand."""
    if not is_demand(thing):
        return False
    n, _, wishes = thing
    return n <= MOST_STORES and all([word.count("?") <= 1 for word, _ in wishes])


def check_half_demand(thing):
    """Raise NoDemand for what is no half demand."""
    if not is_half_demand(thing):
        raise NoDemand("a half demand has at most 3 inputs, and at most one bit of each word is not settled")


def is_plan(thing):
    """Tell whether a thing is a plan."""
    if not isinstance(thing, tuple) or len(thing) != 3:
        return False
    kinds, r, net = thing
    if not are_kinds(kinds, 1, MOST_STORES) or not is_count(r, 1, MOST_READS):
        return False
    return is_net(net) and net[0] == len(kinds) * r


def reads(kind, bit, r):
    """Return the ascending list of all rows of r bits that a store of a kind can be read as."""
    if kind not in KINDS:
        raise NoKind("a store is plain, low or high")
    if bit not in BITS:
        raise NoKind("a store holds one of the bits 0, 1 and ?")
    check_rounds(r)
    return reads_of(kind, bit, r)


def reads_of(kind, bit, r):
    """Return what reads returns; its arguments are not looked at again."""
    if bit != "?" or kind == "plain":
        return [bit * r]
    early, late = ("0", "1") if kind == "low" else ("1", "0")
    settled = [early * (r - many) + late * many for many in range(r + 1)]
    half_settled = [early * (r - 1 - many) + "?" + late * many for many in range(r)]
    return sorted(settled + half_settled)


def rows_of(kinds, r, word):
    """Return the ascending list of all words that can be read of a word, the reads of the first store first."""
    if not are_kinds(kinds, 1, MOST_STORES):
        raise NoKind("kinds are a tuple of 1 to 3 kinds of stores")
    check_rounds(r)
    check_word(word)
    if len(word) != len(kinds):
        raise NoMatch("the word has another number of bits than there are stores")
    return read_words(kinds, r, word)


def read_words(kinds, r, word):
    """Return what rows_of returns; its arguments are not looked at again."""
    return spelled([reads_of(kind, bit, r) for kind, bit in zip(kinds, word)])


def first_failing(demand, plan):
    """Return the first number of a wish and read word at which a plan does not meet a demand, or None."""
    check_half_demand(demand)
    if not is_plan(plan):
        raise NoPlan("a plan is a tuple of kinds, a number of reads, and a net with an input for each read")
    n, m, wishes = demand
    kinds, r, net = plan
    if len(kinds) != n or len(net[2]) != m:
        raise NoMatch("the plan has other numbers of inputs or of outs than the demand")
    places = [
        (number, row)
        for number, wish in enumerate(wishes)
        for row in read_words(kinds, r, wish[0])
    ]
    answers = answers_at(net, [row for _, row in places])
    for place, answer in zip(places, answers):
        if not keeps_to(answer, wishes[place[0]][1]):
            return place
    return None
