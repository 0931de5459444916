"""Tables, the answers at settled words, and tellings, the answers at all words."""

from halfbits.counts import is_count
from halfbits.errors import NoMatch, NoTable, NoTelling, TooGreat
from halfbits.nets import answers_at, check_net
from halfbits.words import all_words, is_within, is_word, is_word_of, settled_words

MOST_TABLE_INPUTS = 6
MOST_TELLING_INPUTS = 5


def is_table(thing):
    """Tell whether a thing is a table."""
    if not has_rows(thing, MOST_TABLE_INPUTS):
        return False
    n, rows = thing
    if len(rows) != len(settled_words(n)) or not are_alike(rows):
        return False
    return all(["?" not in row for row in rows])


def is_telling(thing):
    """Tell whether a thing is a telling."""
    if not has_rows(thing, MOST_TELLING_INPUTS):
        return False
    n, rows = thing
    return len(rows) == len(all_words(n)) and are_alike(rows)


def has_rows(thing, most):
    """Tell whether a thing is a tuple of a number of inputs, at most so many, and a tuple."""
    if not isinstance(thing, tuple) or len(thing) != 2:
        return False
    return is_count(thing[0], 1, most) and isinstance(thing[1], tuple)


def are_alike(rows):
    """Tell whether rows, at least one, are words with equally many bits."""
    return is_word(rows[0]) and all([is_word_of(row, len(rows[0])) for row in rows])


def check_table(thing):
    """Raise NoTable for what is no table."""
    if not is_table(thing):
        raise NoTable("a table is a tuple of its number of inputs and its settled answers at all settled words")


def check_telling(thing):
    """Raise NoTelling for what is no telling."""
    if not is_telling(thing):
        raise NoTelling("a telling is a tuple of its number of inputs and its answers at all words")


def check_inputs(net, most):
    """Raise TooGreat for a net with more inputs than so many."""
    if net[0] > most:
        raise TooGreat("the net has more than " + str(most) + " inputs")


def check_nets(net, other):
    """Raise the error for two nets that cannot be compared at all words."""
    check_net(net)
    check_net(other)
    if net[0] != other[0] or len(net[2]) != len(other[2]):
        raise NoMatch("the nets have unlike numbers of inputs or of outs")
    check_inputs(net, MOST_TABLE_INPUTS)


def table_of(net):
    """Return the table of a net."""
    check_net(net)
    check_inputs(net, MOST_TABLE_INPUTS)
    n = net[0]
    return (n, tuple(answers_at(net, settled_words(n))))


def telling_of(net):
    """Return the telling of a net."""
    check_net(net)
    check_inputs(net, MOST_TELLING_INPUTS)
    n = net[0]
    return (n, tuple(answers_at(net, all_words(n))))


def answers_of_both(net, other):
    """Return the list of all words, ascending, each with what two nets tell there."""
    words = all_words(net[0])
    return list(zip(words, answers_at(net, words), answers_at(other, words)))


def first_parting(net, other):
    """Return the first word at which two nets tell unlike answers, or None."""
    check_nets(net, other)
    for word, here, there in answers_of_both(net, other):
        if here != there:
            return word
    return None


def first_duller(net, other):
    """Return the first word at which what a net tells is not within what the other tells, or None."""
    check_nets(net, other)
    for word, here, there in answers_of_both(net, other):
        if not is_within(here, there):
            return word
    return None
