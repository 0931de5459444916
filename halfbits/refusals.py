"""Refusals: struck lists that show that there are no outlines."""

from halfbits.counts import is_count, numbers_in
from halfbits.demands import MOST_WISHES
from halfbits.rounds import left_at_first, links_of, struck, walks_of, word_to_try
from halfbits.stores import check_half_demand, check_rounds
from halfbits.words import settled_words

MOST_RESTS = 8


def refusal_of(demand, r):
    """Return a refusal for a half demand in r rounds, or None if there are outlines."""
    check_half_demand(demand)
    check_rounds(r)
    links = links_of(demand, walks_of(demand), r)
    return refusal_from(left_at_first(demand), links, settled_words(demand[1]))


def refusal_from(left, links, outputs):
    """Return a refusal that goes on with what is left of the choices, or None if some of them go together."""
    strikes, kept = struck(left, links)
    steps = tuple([(word, outputs[k], number) for word, k, number in strikes])
    if 0 in list(kept.values()):
        return (steps, None)
    word = word_to_try(kept)
    if word is None:
        return None
    refusals = []
    for k in numbers_in(kept[word]):
        refusal = refusal_from({**kept, word: 1 << k}, links, outputs)
        if refusal is None:
            return None
        refusals.append(refusal)
    return (steps, (word, tuple(refusals)))


def shows_refusal(demand, r, thing):
    """Tell whether a thing is a refusal for a half demand in r rounds."""
    check_half_demand(demand)
    check_rounds(r)
    ends_at = {}
    for number, word, other, ends in links_of(demand, walks_of(demand), r):
        ends_at[(number, word)] = (other, ends)
    return is_refusal(thing, left_at_first(demand), ends_at, settled_words(demand[1]), MOST_RESTS)


def is_refusal(thing, left, ends_at, outputs, deep):
    """Tell whether a thing is a refusal, with rests at most so deep, that goes on with what is left."""
    if not isinstance(thing, tuple) or len(thing) != 2:
        return False
    steps, rest = thing
    kept = left_behind(steps, left, ends_at, outputs)
    if kept is None:
        return False
    if 0 in list(kept.values()):
        return rest is None
    if deep == 0 or not isinstance(rest, tuple) or len(rest) != 2:
        return False
    word, refusals = rest
    if not isinstance(word, str) or word not in kept:
        return False
    choices = numbers_in(kept[word])
    if not isinstance(refusals, tuple) or len(refusals) != len(choices):
        return False
    for k, refusal in zip(choices, refusals):
        if not is_refusal(refusal, {**kept, word: 1 << k}, ends_at, outputs, deep - 1):
            return False
    return True


def left_behind(steps, left, ends_at, outputs):
    """Return what is left of the choices behind steps, or None for what is no tuple of steps."""
    if not isinstance(steps, tuple):
        return None
    kept = dict(left)
    for step in steps:
        if not is_step(step, kept, ends_at, outputs):
            return None
        word, output, _ = step
        kept[word] = kept[word] - (1 << outputs.index(output))
    return kept


def is_step(thing, left, ends_at, outputs):
    """Tell whether a thing is a step that strikes one of the choices that are left."""
    if not isinstance(thing, tuple) or len(thing) != 3:
        return False
    word, output, number = thing
    if not isinstance(word, str) or output not in outputs or not is_count(number, 0, MOST_WISHES - 1):
        return False
    if (number, word) not in ends_at:
        return False
    k = outputs.index(output)
    other, ends = ends_at[(number, word)]
    return (left[word] >> k) & 1 == 1 and ends[k] & left[other] == 0
