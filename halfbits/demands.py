"""Demands, and the nets that meet them."""

from halfbits.counts import is_count, numbers_in
from halfbits.errors import NoDemand, NoMatch, NoPicks
from halfbits.nets import answers_at, check_net
from halfbits.sharp import net_of_sums
from halfbits.words import is_within, is_word_of, met

MOST_INPUTS = 4
MOST_OUTS = 3
MOST_WISHES = 27
MOST_LETS = 8


def is_demand(thing):
    """Tell whether a thing is a demand."""
    if not isinstance(thing, tuple) or len(thing) != 3:
        return False
    n, m, wishes = thing
    if not is_count(n, 1, MOST_INPUTS) or not is_count(m, 1, MOST_OUTS):
        return False
    if not isinstance(wishes, tuple) or not 1 <= len(wishes) <= MOST_WISHES:
        return False
    if not all([is_wish(wish, n, m) for wish in wishes]):
        return False
    return are_different([word for word, _ in wishes])


def is_wish(thing, n, m):
    """Tell whether a thing is a pair of a word of n bits and lets of m bits."""
    if not isinstance(thing, tuple) or len(thing) != 2:
        return False
    return is_word_of(thing[0], n) and are_lets(thing[1], m)


def are_lets(thing, m):
    """Tell whether a thing is a tuple of different words of m bits, not too many."""
    if not isinstance(thing, tuple) or not 1 <= len(thing) <= MOST_LETS:
        return False
    return all([is_word_of(let, m) for let in thing]) and are_different(thing)


def are_different(words):
    """Tell whether no word stands twice."""
    return len(set(words)) == len(words)


def check_demand(thing):
    """Raise NoDemand for what is no demand."""
    if not is_demand(thing):
        raise NoDemand("a demand is a tuple of its numbers of inputs and of outs, and its wishes")


def keeps_to(word, lets):
    """Tell whether a word is within one of some lets."""
    return any([is_within(word, let) for let in lets])


def first_missed(demand, net):
    """Return the number of the first wish that a net does not meet, or None."""
    check_demand(demand)
    check_net(net)
    n, m, wishes = demand
    if net[0] != n or len(net[2]) != m:
        raise NoMatch("the net has other numbers of inputs or of outs than the demand")
    answers = answers_at(net, [word for word, _ in wishes])
    for number, wish in enumerate(wishes):
        if not keeps_to(answers[number], wish[1]):
            return number
    return None


def picks_of(demand):
    """Return the first picks for a demand, in ascending order, or None."""
    check_demand(demand)
    wishes = demand[2]
    fits = fits_of(wishes)
    left = {number: (1 << len(lets)) - 1 for number, (_, lets) in enumerate(wishes)}
    if not is_solvable(left, fits):
        return None
    for number in range(len(wishes)):
        left[number] = first_solvable(number, left, fits)
    return tuple([numbers_in(left[number])[0] for number in range(len(wishes))])


def fits_of(wishes):
    """Return which lets of two wishes fit each other, for all two whose words have a common settling.

    fits[k][j][a] is an integer: its bit b is set if the let a of wish k and the let b of wish j have a
    common settling. Each let fits itself, so that a wish strikes none of its own.
    """
    return [fits_with(word, lets, wishes) for word, lets in wishes]


def fits_with(word, lets, wishes):
    """Return the dict that fits_of has for one wish, by the numbers of those whose words meet its word."""
    return {
        number: [fitting(let, others) for let in lets]
        for number, (other, others) in enumerate(wishes)
        if met(word, other) is not None
    }


def fitting(let, others):
    """Return the integer whose bit b is set if a let and others[b] have a common settling."""
    return sum([1 << number for number, other in enumerate(others) if met(let, other) is not None])


def is_solvable(left, fits):
    """Tell whether of the lets that are left one can be picked for each wish so that they fit.

    What is left has an integer for each wish: its bits that are set are the numbers of the lets. Groups of
    undecided wishes that do not bear on each other are gone through apart, which keeps the search short.
    """
    kept = narrowed(left, fits)
    if 0 in list(kept.values()):
        return False
    undecided = {wish: kept[wish] for wish in kept if len(numbers_in(kept[wish])) > 1}
    for group in groups_of(undecided, fits):
        if not is_group_solvable(group, fits):
            return False
    return True


def is_group_solvable(group, fits):
    """Tell what is_solvable tells by trying each let of the wish with the fewest ones left."""
    wish = min(list(group), key=lambda number: len(numbers_in(group[number])))
    for let in numbers_in(group[wish]):
        if is_solvable({**group, wish: 1 << let}, fits):
            return True
    return False


def first_solvable(wish, left, fits):
    """Return the first let left at a wish, as an integer with its bit set, that lets the others be picked."""
    lets = numbers_in(left[wish])
    # Some let can be picked, so the last one needs no look.
    for let in lets[:-1]:
        if is_solvable({**left, wish: 1 << let}, fits):
            return 1 << let
    return 1 << lets[-1]


def narrowed(left, fits):
    """Return what is left of the lets when those that fit no let left at another wish are struck."""
    kept = dict(left)
    waiting = list(left)
    while waiting:
        wish = waiting.pop()
        for other, masks in fits[wish].items():
            if other in kept:
                still = kept[other] & fitting_any(kept[wish], masks)
                if still != kept[other]:
                    kept[other] = still
                    waiting.append(other)
    return kept


def fitting_any(mask, masks):
    """Return which lets of another wish fit some let that is left at a wish."""
    found = 0
    for number in numbers_in(mask):
        found = found | masks[number]
    return found


def groups_of(left, fits):
    """Return the wishes with lets left in groups; wishes of unlike groups do not bear on each other."""
    groups = []
    placed = {}
    for wish in left:
        if wish not in placed:
            group = group_around(wish, left, fits)
            placed.update(group)
            groups.append(group)
    return groups


def group_around(start, left, fits):
    """Return what is left at a wish and at all that bear on it, also by way of others."""
    group = {start: left[start]}
    waiting = [start]
    while waiting:
        near = fits[waiting.pop()]
        for wish in near:
            if wish in left and wish not in group:
                group[wish] = left[wish]
                waiting.append(wish)
    return group


def picked_net(demand, picks):
    """Return a net that tells a word within the picked let at each wish's word."""
    check_demand(demand)
    n, m, wishes = demand
    if not are_picks(wishes, picks):
        raise NoPicks("picks are a tuple of the number of a let for each wish, such that the lets fit")
    pairs = picked_pairs(wishes, picks)
    # Where "0" is picked no word with "1" picked has a common settling, so all products are "0" there.
    return net_of_sums(n, [[word for word, let in pairs if let[out] == "1"] for out in range(m)])


def are_picks(wishes, thing):
    """Tell whether a thing is picks for the wishes of a demand."""
    if not isinstance(thing, tuple) or len(thing) != len(wishes):
        return False
    if not all([is_count(number, 0, len(wish[1]) - 1) for number, wish in zip(thing, wishes)]):
        return False
    pairs = picked_pairs(wishes, thing)
    for word, let in pairs:
        for other, other_let in pairs:
            if met(word, other) is not None and met(let, other_let) is None:
                return False
    return True


def picked_pairs(wishes, picks):
    """Return the list of the wishes' words, each with its picked let."""
    return [(word, lets[number]) for (word, lets), number in zip(wishes, picks)]
