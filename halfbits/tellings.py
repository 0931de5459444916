"""Tellings that nets can have, and nets for them."""

from halfbits.nets import NetMaker
from halfbits.sharp import prime_words
from halfbits.tables import check_telling
from halfbits.words import all_words, is_within, wider_words


def why_not(telling):
    """Return None if a telling is natural, else the first pair of words that shows that it is not."""
    check_telling(telling)
    answers = answers_by_word(telling)
    for word in answers:
        if "?" not in word and "?" in answers[word]:
            return (word, word)
        for other in wider_words(word):
            if not is_within(answers[word], answers[other]):
                return (word, other)
    return None


def answers_by_word(telling):
    """Return the dict of the answers of a telling by their words, ascending."""
    n, rows = telling
    return dict(zip(all_words(n), rows))


def net_of(telling):
    """Return a net with a telling, or None if there is none."""
    if why_not(telling) is not None:
        return None
    n, rows = telling
    answers = answers_by_word(telling)
    maker = NetMaker(n)
    return maker.net([natural_out(maker, answers, out) for out in range(len(rows[0]))])


def natural_out(maker, answers, out):
    """Return the number that tells what natural answers have at an out.

    The one sum is "1" exactly where the answer is "1", the other one exactly where it is "0", and each is
    "0" where the other one is "1". Where the answer is "?" a sum may still be "0", though not both of
    them: each settling has an answer, so it is within a word of one of the sums. The doubt is "?" exactly
    where the sum for "0" is, else "0", and so keeps the out from being "0" there.
    """
    high = maker.sum_of(prime_words(answers, out, "1"))
    low = maker.sum_of(prime_words(answers, out, "0"))
    doubt = maker.put(("and", low, maker.put(("not", low))))
    return maker.put(("or", high, doubt))
