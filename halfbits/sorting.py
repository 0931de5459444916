"""The order of the reflected code's words and the half done ones, and rows of comparators that sort them."""

from halfbits.counts import is_count
from halfbits.errors import NoCount, NoMatch, NoRow, NoWord
from halfbits.nets import NetMaker
from halfbits.sharp import sharp_net
from halfbits.words import check_bits, is_word, joined, settled_words, settlings

MOST_PLACE_BITS = 16
MOST_PAIRS = 200
LEAST_WORDS = 2
MOST_WORDS = 8


def place_of(word):
    """Return the place of a word in the order, or None for a word that has none."""
    if not is_word(word) or len(word) > MOST_PLACE_BITS:
        raise NoWord("words with places have at most 16 bits")
    if word.count("?") > 1:
        return None
    numbers = sorted([number_of(settled) for settled in settlings(word)])
    if len(numbers) == 1:
        return 2 * numbers[0]
    return 2 * numbers[0] + 1 if numbers[1] == numbers[0] + 1 else None


def number_of(settled):
    """Return the number of a settled word in the reflected code."""
    number = 0
    for sign in settled:
        # A "1" in the word turns round the order of all that stands behind it.
        turned = number & 1
        number = 2 * number + (turned if sign == "0" else 1 - turned)
    return number


def word_at(bits, place):
    """Return the word of so many bits at a place in the order."""
    check_place_bits(bits)
    if not is_count(place, 0, 2 * (1 << bits) - 2):
        raise NoCount("there is no such place")
    number = place // 2
    if place % 2 == 0:
        return reflected_word(bits, number)
    return joined([reflected_word(bits, number), reflected_word(bits, number + 1)])


def check_place_bits(thing):
    """Raise NoCount for what is no number of bits of words with places."""
    if not is_count(thing, 1, MOST_PLACE_BITS):
        raise NoCount("words with places have from 1 to 16 bits")


def reflected_word(bits, number):
    """Return the word of the reflected code of so many bits with a number."""
    marks = number ^ (number >> 1)
    return "".join(["1" if (marks >> at) & 1 else "0" for at in range(bits)][::-1])


def order_net(bits):
    """Return a net that tells of two words with places the one with the lesser place first.

    The words are gone through bit by bit. What is known of them is a state of two bits: "00" and "11" if they
    are equal so far, with an even or an odd number of "1", "01" if the first one is the lesser, "10" if the
    second one is. Sharp nets for the next state and for the bits shown keep all that is sure of words half done.
    """
    check_place_bits(bits)
    next_net = sharp_net(table_of_four(next_state))
    bits_net = sharp_net(table_of_four(ordered_bits))
    maker = NetMaker(2 * bits)
    state = [maker.put(("0",)), maker.put(("0",))]
    firsts, lasts = [], []
    for at in range(bits):
        numbers = state + [at, bits + at]
        first, last = maker.placed(bits_net, numbers)
        firsts.append(first)
        lasts.append(last)
        state = maker.placed(next_net, numbers)
    return maker.net(firsts + lasts)


def table_of_four(answer_at):
    """Return the table of what a function tells of a state of two bits and a pair of bits."""
    return (4, tuple([answer_at(word[:2], word[2:]) for word in settled_words(4)]))


def next_state(state, pair):
    """Return the state behind a pair of bits, one of each word."""
    if state == "00":
        return pair
    if state == "11":
        return contrary(pair)
    return state


def contrary(bits):
    """Return settled bits exchanged, "0" for "1"."""
    return "".join(["1" if bit == "0" else "0" for bit in bits])


def ordered_bits(state, pair):
    """Return the bit of the lesser word and the bit of the other one, of a pair of bits of both."""
    # Where the words are unlike for the first time, behind an odd number of "1" the one with "1" is the lesser.
    turned = next_state(state, pair) == "10"
    return pair[::-1] if turned else pair


def is_row(thing, k):
    """Tell whether a thing is a row of comparators for k words."""
    if not isinstance(thing, tuple) or len(thing) > MOST_PAIRS:
        return False
    return all([is_comparator(pair, k) for pair in thing])


def is_comparator(thing, k):
    """Tell whether a thing is a pair of ascending numbers of k words."""
    if not isinstance(thing, tuple) or len(thing) != 2:
        return False
    return is_count(thing[1], 0, k - 1) and is_count(thing[0], 0, thing[1] - 1)


def check_row(thing, k):
    """Raise NoRow for what is no row of comparators for k words."""
    if not is_row(thing, k):
        raise NoRow("a row is a tuple of at most 200 pairs of ascending numbers of words")


def check_placed_words(things):
    """Raise NoWord for what is no list of words with places, NoMatch for unlike numbers of bits."""
    if not isinstance(things, list) or not LEAST_WORDS <= len(things) <= MOST_WORDS:
        raise NoWord("the words to be sorted stand in a list, from 2 to 8 of them")
    for thing in things:
        if place_of(thing) is None:
            raise NoWord("a word to be sorted has a place")
    check_bits(things)


def sorted_by(row, words):
    """Return the list of words behind a row of comparators."""
    check_row(row, MOST_WORDS)
    check_placed_words(words)
    if not is_row(row, len(words)):
        raise NoMatch("the row has numbers that the words have not")
    place_at = {word: place_of(word) for word in words}
    behind = list(words)
    for i, j in row:
        if place_at[behind[i]] > place_at[behind[j]]:
            behind[i], behind[j] = behind[j], behind[i]
    return behind


def first_unsorted(k, row):
    """Return the first row of k settled bits that a row of comparators leaves out of order, or None."""
    if not is_count(k, LEAST_WORDS, MOST_WORDS):
        raise NoCount("there are from 2 to 8 words to be sorted")
    check_row(row, k)
    for word in settled_words(k):
        if "10" in bits_behind(row, word):
            return word
    return None


def bits_behind(row, word):
    """Return the settled bits of a word behind a row of comparators."""
    bits = list(word)
    for i, j in row:
        if bits[i] > bits[j]:
            bits[i], bits[j] = bits[j], bits[i]
    return "".join(bits)
