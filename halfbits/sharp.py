"""What tables surely tell, their primes, and nets that tell all that is sure."""

from halfbits.counts import is_count
from halfbits.errors import NoCount, NoKind, NoMatch, NoSum
from halfbits.nets import NetMaker, answers_at
from halfbits.tables import MOST_TABLE_INPUTS, check_table, table_of
from halfbits.words import all_words, check_word, is_word_of, joined, settled_words, settlings, wider_words

MOST_SUMS = 6
MOST_PRODUCTS = 200


def surely(table, word):
    """Return what all answers of a table at the settlings of a word have in common."""
    check_table(table)
    check_word(word)
    if len(word) != table[0]:
        raise NoMatch("the word has another number of bits than the table has inputs")
    return sure_answer(answers_in(table), word)


def answers_in(table):
    """Return the dict of the answers of a table by their settled words."""
    n, rows = table
    return dict(zip(settled_words(n), rows))


def sure_answer(settled_answers, word):
    """Return the answers at the settlings of a word, joined."""
    return joined([settled_answers[settled] for settled in settlings(word)])


def sure_answers(table):
    """Return the dict of what a table surely tells by the words, ascending."""
    settled_answers = answers_in(table)
    return {word: sure_answer(settled_answers, word) for word in all_words(table[0])}


def dull_word(net):
    """Return the first word at which a net does not tell all that its table surely tells, or None."""
    return first_dull(table_of(net), net)


def first_dull(table, net):
    """Return the first word at which a net does not tell all that its table surely tells, or None."""
    sure = sure_answers(table)
    for word, told in zip(list(sure), answers_at(net, list(sure))):
        if told != sure[word]:
            return word
    return None


def primes(table, out, bit):
    """Return the ascending list of the widest words at which an out of a table surely has a bit."""
    check_table(table)
    check_out(table, out)
    if bit not in ("0", "1"):
        raise NoKind("a prime is one of the bit 0 or of the bit 1, each a string")
    return prime_words(sure_answers(table), out, bit)


def check_out(table, out):
    """Raise NoCount for what is no number of an out of a table."""
    if not is_count(out, 0, len(table[1][0]) - 1):
        raise NoCount("the table has no out with this number")


def prime_words(answers, out, bit):
    """Return the ascending list of the words with such a bit at an out that are within no other such word.

    The answers at all words are natural: those with the bit at a word have it at all words within it.
    """
    having = {word: True for word in answers if answers[word][out] == bit}
    return [word for word in having if not any([wider in having for wider in wider_words(word)])]


def sum_net(n, sums):
    """Return a net with one out for each sum that tells the or of the products of its words."""
    check_inputs_of_sums(n)
    if not isinstance(sums, list) or not 1 <= len(sums) <= MOST_SUMS:
        raise NoSum("sums stand in a list, at least one and at most 6")
    for words in sums:
        check_sum(n, words)
        if len(words) > MOST_PRODUCTS:
            raise NoSum("a sum has at most 200 words")
    return net_of_sums(n, sums)


def check_inputs_of_sums(n):
    """Raise NoCount for what is no number of inputs that sums can have."""
    if not is_count(n, 1, MOST_TABLE_INPUTS):
        raise NoCount("a net of sums has from 1 to 6 inputs")


def check_sum(n, thing):
    """Raise NoSum for what is no list of words of n bits."""
    if not isinstance(thing, list) or not all([is_word_of(word, n) for word in thing]):
        raise NoSum("a sum is a list of words with as many bits as there are inputs")


def net_of_sums(n, sums):
    """Return what sum_net returns, for any number of sums; they are not looked at again."""
    maker = NetMaker(n)
    return maker.net([maker.sum_of(words) for words in sums])


def is_sharp_sum(table, out, words):
    """Tell whether the net of one sum has an out of a table, and is sharp."""
    check_table(table)
    check_out(table, out)
    check_sum(table[0], words)
    sure = sure_answers(table)
    given = {word: True for word in words}
    if not all([sure[word][out] == "1" for word in given]):
        return False
    return all([prime in given for prime in prime_words(sure, out, "1")])


def sharp_net(table):
    """Return a sharp net with a table."""
    check_table(table)
    sure = sure_answers(table)
    n, rows = table
    # The sum of all primes of "1" is sharp: where the out is surely "0", no prime has a common settling.
    return net_of_sums(n, [prime_words(sure, out, "1") for out in range(len(rows[0]))])
