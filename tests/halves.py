"""What several test files share about half demands: makers, and plain searches by the document's words."""

import functools
import itertools

from tests.support import is_within_by_definition, joined_by_definition, settled_words_of, words_of

NO_COUNTS_OF_ROUNDS = [0, 9, -1, 10 ** 12, True, False, None, "1", "", (1,), [1], {}, "??"]
NO_HALF_DEMANDS = [
    (4, 1, (("0000", ("0",)),)), (4, 1, (("000?", ("0",)),)), (2, 1, (("??", ("0",)),)),
    (3, 1, (("0?0", ("0",)), ("?0?", ("0",)))), (3, 1, (("???", ("0",)), ("000", ("0",)))),
]
# Each two of these choices have others that go with them, but around the ring of four words none close.
RING = (2, 2, (
    ("00", ("00", "11")), ("01", ("00", "11")), ("10", ("01", "10")), ("11", ("01", "10")),
    ("0?", ("00", "11")), ("?0", ("0?", "1?")), ("1?", ("01", "10")), ("?1", ("?0", "?1")),
))
# Here choices are to be told apart twice, one within the other.
TWO_DEEP = (3, 3, (
    ("000", ("110", "100", "111")), ("001", ("001", "100", "110")), ("010", ("001", "100", "110")),
    ("011", ("111", "011", "000")), ("100", ("111", "011", "101")), ("101", ("010", "111", "100")),
    ("110", ("000", "010", "101")), ("111", ("101", "010", "001")),
    ("00?", ("100", "110", "1?0", "11?")), ("01?", ("?00", "0?1", "00?", "11?")),
    ("0?0", ("100", "110", "1?0", "11?")), ("0?1", ("00?", "11?", "0?1", "?00")),
    ("10?", ("111", "10?", "01?", "?11")), ("11?", ("101", "010", "0?0", "?01")),
    ("1?0", ("101", "1?1", "01?", "??1")), ("1?1", ("010", "1?1", "10?", "?1?")),
    ("?00", ("111", "?11", "10?", "1?1")), ("?01", ("100", "1?0", "11?", "?10")),
    ("?10", ("00?", "?01", "?10", "10?")), ("?11", ("01?", "1?1", "0?0", "00?")),
))
# In one round no outlines have 00 as the output at 00, though each two words by themselves could.
SECOND = (2, 2, (
    ("00", ("00", "11")), ("01", ("10", "01")), ("10", ("10", "11")), ("11", ("10", "11")),
    ("0?", ("1?", "0?")), ("1?", ("10", "11")), ("?0", ("11", "?0")), ("?1", ("?1", "10", "1?")),
))
# The one walk from 000 to 100 comes to all eight outputs.
LONG = (1, 3, (
    ("0", ("000",)), ("1", ("100",)), ("?", ("00?", "0?1", "01?", "?10", "11?", "1?1", "10?")),
))


def half_words_of(bits):
    """All words of so many bits with at most one "?", ascending."""
    return [word for word in words_of(bits) if word.count("?") <= 1]


def made_half_demand(source, n, m, wishes, lets):
    """A half demand with so many wishes, of at most so many lets each, picked by a source of numbers."""
    words = half_words_of(n)
    return (n, m, tuple(
        (word, tuple(source.sample(words_of(m), source.randint(1, min(lets, 3 ** m, 8)))))
        for word in source.sample(words, min(wishes, len(words)))
    ))


def made_tight_demand(source, n, m):
    """A half demand of which outputs are to be picked with care: few are let, and few steps between these."""
    outputs = {word: source.sample(settled_words_of(m), source.randint(1, 2)) for word in settled_words_of(n)}
    wishes = [(word, tuple(lets)) for word, lets in outputs.items() if source.random() < 0.85]
    for word in half_words_of(n):
        if "?" in word and source.random() < 0.85:
            lows, highs = outputs[word.replace("?", "0")], outputs[word.replace("?", "1")]
            lets = {let: True for _ in range(2) for let in made_steps(source, source.choice(lows), source.choice(highs))}
            if len(lets) > 1 and source.random() < 0.15:
                del lets[source.choice(list(lets))]
            wishes.append((word, tuple(lets)[:8]))
    source.shuffle(wishes)
    return (n, m, tuple(wishes))


def made_steps(source, start, end):
    """The joins of the steps of a walk from one output to another that changes a bit at each step."""
    if start == end:
        return [start]
    joins = []
    for at in source.sample(range(len(start)), len(start)):
        if start[at] != end[at]:
            joins.append(start[:at] + "?" + start[at + 1:])
            start = start[:at] + end[at] + start[at + 1:]
    return joins


@functools.lru_cache(maxsize=None)
def keeps(word, lets):
    """Whether a word is within one of some lets."""
    return any(is_within_by_definition(word, let) for let in lets)


def settled_in(demand):
    """The settled words that are wishes' words or settlings of them, ascending."""
    ends = (word.replace("?", bit) for word, _ in demand[2] for bit in "01")
    return sorted(set(ends))


def choices_by_definition(demand):
    """The outputs that can be chosen at each of the settled words."""
    lets_at = dict(demand[2])
    return {
        word: [output for output in settled_words_of(demand[1]) if word not in lets_at or keeps(output, lets_at[word])]
        for word in settled_in(demand)
    }


@functools.lru_cache(maxsize=None)
def ends_by_definition(start, lets, r):
    """The outputs that walks of at most r steps lead to from one."""
    reached = {start} if keeps(start, lets) else set()
    for _ in range(r):
        reached |= {
            other
            for output in reached
            for other in settled_words_of(len(start))
            if keeps(joined_by_definition([output, other]), lets)
        }
    return frozenset(reached)


def has_outlines_by_definition(demand, r):
    """Whether there are outlines in r rounds, out of all rows of outputs."""
    choices = choices_by_definition(demand)
    half = [(word.replace("?", "0"), word.replace("?", "1"), lets) for word, lets in demand[2] if "?" in word]
    for row in itertools.product(*choices.values()):
        output_at = dict(zip(choices, row))
        if all(output_at[high] in ends_by_definition(output_at[low], lets, r) for low, high, lets in half):
            return True
    return False


def least_by_definition(demand):
    """The least r with outlines, or None, looked for up to 9."""
    return next((r for r in range(1, 10) if has_outlines_by_definition(demand, r)), None)


def all_walks(start, end, lets, r):
    """All walks of at most r steps from one output to another."""
    walks = [(start,)] if keeps(start, lets) else []
    found = list(walks)
    for _ in range(r):
        walks = [
            walk + (other,)
            for walk in walks
            for other in settled_words_of(len(start))
            if keeps(joined_by_definition([walk[-1], other]), lets)
        ]
        found += walks
    return [walk for walk in found if walk[-1] == end]


def all_outlines(demand, r):
    """All outlines in r rounds."""
    choices = choices_by_definition(demand)
    found = []
    for row in itertools.product(*choices.values()):
        output_at = dict(zip(choices, row))
        walks = [
            all_walks(output_at[word.replace("?", "0")], output_at[word.replace("?", "1")], lets, r)
            for word, lets in demand[2]
            if "?" in word
        ]
        found += [(tuple(output_at.items()), walked) for walked in itertools.product(*walks)]
    return found


def variants(thing):
    """Things that differ from a nested tuple in one place: left out, put in twice, exchanged, of another kind."""
    for other in (None, True, False, 0, 1, -1, 7, "0", "?", "01", (), (()), [], {}, ("0",)):
        if type(other) is not type(thing) or other != thing:
            yield other
    if isinstance(thing, str):
        for at in range(len(thing)):
            for sign in "01?":
                if sign != thing[at]:
                    yield thing[:at] + sign + thing[at + 1:]
        yield thing + "0"
        yield thing[:-1]
        yield [thing]
    elif type(thing) is int:
        yield thing + 1
        yield thing - 1
        yield str(thing)
    elif isinstance(thing, tuple):
        yield list(thing)
        if thing[::-1] != thing:
            yield thing[::-1]
        for at in range(len(thing)):
            yield thing[:at] + thing[at + 1:]
            yield thing[:at] + thing[at:at + 1] + thing[at:]
            yield thing[:at] + (list(thing[at]) if isinstance(thing[at], tuple) else None,) + thing[at + 1:]
            if at > 0 and thing[at] != thing[at - 1]:
                yield thing[:at - 1] + (thing[at], thing[at - 1]) + thing[at + 1:]
            for part in variants(thing[at]):
                yield thing[:at] + (part,) + thing[at + 1:]
