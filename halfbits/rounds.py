"""Outlines: the outputs and the short walks between them that plans of so many rounds come from."""

from halfbits.counts import numbers_in
from halfbits.demands import keeps_to
from halfbits.sharp import net_of_sums
from halfbits.stores import check_half_demand, check_rounds
from halfbits.words import joined, settled_words, settlings

# There are at most 8 outputs, so a walk that comes to none of them twice has at most 7 steps.
MOST_STEPS = 7


def half_wishes(demand):
    """Return the list of the wishes whose words have a "?", each as (number, one settling, the other, lets)."""
    found = []
    for number, (word, lets) in enumerate(demand[2]):
        if "?" in word:
            low, high = settlings(word)
            found.append((number, low, high, lets))
    return found


def choices_of(demand):
    """Return the dict of the outputs that can be chosen at the settled words, all of them ascending."""
    _, m, wishes = demand
    lets_at = {word: lets for word, lets in wishes}
    words = {settled: True for word in lets_at for settled in settlings(word)}
    return {
        word: [output for output in settled_words(m) if word not in lets_at or keeps_to(output, lets_at[word])]
        for word in sorted(words)
    }


def steps_between(lets, m):
    """Return the dict of the outputs that keep to lets, each with the list of those that a step leads to."""
    outputs = settled_words(m)
    return {
        output: [other for other in outputs if keeps_to(joined([output, other]), lets)]
        for output in outputs
        if keeps_to(output, lets)
    }


def walks_from(start, steps):
    """Return the dict of a shortest walk from an output to each one that there is a walk to."""
    walks = {start: (start,)}
    reached = [start]
    while reached:
        beyond = []
        for output in reached:
            for other in steps[output]:
                if other not in walks:
                    walks[other] = walks[output] + (other,)
                    beyond.append(other)
        reached = beyond
    return walks


def walks_of(demand):
    """Return the shortest walks for each wish whose word has a "?": walks[number][start][end]."""
    found = {}
    for number, _, _, lets in half_wishes(demand):
        steps = steps_between(lets, demand[1])
        found[number] = {start: walks_from(start, steps) for start in steps}
    return found


def left_at_first(demand):
    """Return the dict of the choices at the settled words as integers: bit k is set for the output number k."""
    outputs = settled_words(demand[1])
    return {
        word: sum([1 << outputs.index(output) for output in choices])
        for word, choices in choices_of(demand).items()
    }


def links_of(demand, walks, r):
    """Return the list of (number, word, other, ends), twice for each wish whose word has a "?".

    Word and other are the settlings of the wish's word. Bit j of ends[k] is set if a walk for the wish, of at
    most r steps, leads from the output number k to the output number j.
    """
    outputs = settled_words(demand[1])
    links = []
    for number, low, high, _ in half_wishes(demand):
        ends = [ends_of(walks[number].get(output, {}), outputs, r) for output in outputs]
        links.append((number, low, high, ends))
        links.append((number, high, low, ends))
    return links


def ends_of(walks, outputs, r):
    """Return the integer whose bit k is set if the walk to the output number k has at most r steps."""
    return sum([1 << k for k, output in enumerate(outputs) if output in walks and len(walks[output]) <= r + 1])


def struck(left, links):
    """Strike choices as long as one can be struck and each word has one left.

    Return the list of (word, number of the output, number of the wish) of what was struck, in turn, and the
    dict of what is left.
    """
    kept = dict(left)
    steps = []
    before = -1
    while before != len(steps):
        before = len(steps)
        for number, word, other, ends in links:
            without = [k for k in numbers_in(kept[word]) if ends[k] & kept[other] == 0]
            kept[word] = kept[word] - sum([1 << k for k in without])
            steps = steps + [(word, k, number) for k in without]
            if kept[word] == 0:
                return (steps, kept)
    return (steps, kept)


def word_to_try(left):
    """Return the first word with the fewest choices left of those to try one by one, or None.

    The two settlings of a wish's word differ in one bit, so just one of them has an even number of "1". Where
    such words have one choice each, whatever is left at the others, behind the strikes, goes with them.
    """
    words = [word for word in left if word.count("1") % 2 == 0 and len(numbers_in(left[word])) > 1]
    return min(words, key=lambda word: len(numbers_in(left[word])), default=None)


def matched(left, links):
    """Return what is left such that the first choices of all words go together, or None."""
    kept = struck(left, links)[1]
    if 0 in list(kept.values()):
        return None
    word = word_to_try(kept)
    if word is None:
        return kept
    for k in numbers_in(kept[word]):
        found = matched({**kept, word: 1 << k}, links)
        if found is not None:
            return found
    return None


def outputs_in_rounds(demand, walks, r):
    """Return the dict of outputs at the settled words between which short walks lead, or None."""
    left = matched(left_at_first(demand), links_of(demand, walks, r))
    if left is None:
        return None
    outputs = settled_words(demand[1])
    return {word: outputs[numbers_in(left[word])[0]] for word in left}


def outlines_of(demand, r):
    """Return outlines in r rounds for a half demand, or None if there are none."""
    check_half_demand(demand)
    check_rounds(r)
    walks = walks_of(demand)
    found = outputs_in_rounds(demand, walks, r)
    if found is None:
        return None
    walked = [walks[number][found[low]][found[high]] for number, low, high, _ in half_wishes(demand)]
    return (tuple(found.items()), tuple(walked))


def least_rounds(demand):
    """Return the least number of rounds in which there are outlines for a half demand, or None."""
    check_half_demand(demand)
    walks = walks_of(demand)
    for r in range(1, MOST_STEPS + 1):
        if outputs_in_rounds(demand, walks, r) is not None:
            return r
    return None


def shows_outlines(demand, r, thing):
    """Tell whether a thing is outlines in r rounds for a half demand."""
    check_half_demand(demand)
    check_rounds(r)
    if not isinstance(thing, tuple) or len(thing) != 2:
        return False
    outputs, walks = thing
    if not are_outputs(demand, outputs):
        return False
    wishes = half_wishes(demand)
    if not isinstance(walks, tuple) or len(walks) != len(wishes):
        return False
    output_at = {word: output for word, output in outputs}
    for walk, (_, low, high, lets) in zip(walks, wishes):
        if not is_walk(walk, r, steps_between(lets, demand[1])):
            return False
        if walk[0] != output_at[low] or walk[-1] != output_at[high]:
            return False
    return True


def are_outputs(demand, thing):
    """Tell whether a thing is a tuple of a word and a choice for each settled word of a demand."""
    choices = choices_of(demand)
    if not isinstance(thing, tuple) or len(thing) != len(choices):
        return False
    for pair, word in zip(thing, choices):
        if not isinstance(pair, tuple) or len(pair) != 2:
            return False
        if pair[0] != word or pair[1] not in choices[word]:
            return False
    return True


def is_walk(thing, r, steps):
    """Tell whether a thing is a walk of at most r steps."""
    if not isinstance(thing, tuple) or not 1 <= len(thing) <= r + 1:
        return False
    if not all([isinstance(output, str) and output in steps for output in thing]):
        return False
    return all([later in steps[output] for output, later in zip(thing, thing[1:])])


def plan_of(demand, r):
    """Return a plan of r rounds with "low" stores alone that meets a half demand, or None."""
    outlines = outlines_of(demand, r)
    if outlines is None:
        return None
    n, m, _ = demand
    answers = answers_by_row(demand, r, outlines)
    # Answers at rows with a common settling are never contrary, so where "0" is to be told all products are "0".
    sums = [[row for row in answers if answers[row][out] == "1"] for out in range(m)]
    return (("low",) * n, r, net_of_sums(n * r, sums))


def answers_by_row(demand, r, outlines):
    """Return the dict of what to tell at each row that "low" stores can be read as.

    Each "1" more that is read goes on by one step of the walk; a "?" tells both outputs of the step joined.
    """
    outputs, walks = outlines
    answers = {row_read(word, "", r): output for word, output in outputs}
    for walk, wish in zip(walks, half_wishes(demand)):
        word = demand[2][wish[0]][0]
        path = walk + walk[-1:] * (r + 1 - len(walk))
        for many in range(r + 1):
            answers[row_read(word, "0" * (r - many) + "1" * many, r)] = path[many]
        for many in range(r):
            step = [path[many], path[many + 1]]
            answers[row_read(word, "0" * (r - 1 - many) + "?" + "1" * many, r)] = joined(step)
    return answers


def row_read(word, read, r):
    """Return the row that is read of a word whose "?" is read in such a way."""
    return "".join([read if bit == "?" else bit * r for bit in word])
