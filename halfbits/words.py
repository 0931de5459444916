"""Words: rows of bits that are 0, 1 or not settled yet."""

from halfbits.errors import NoMatch, NoWord, TooGreat

SIGNS = "01?"
MOST_BITS = 32
MOST_OPEN_BITS = 8
MOST_WORDS = 1000


def is_word(thing):
    """Tell whether a thing is a word."""
    if not isinstance(thing, str) or not 1 <= len(thing) <= MOST_BITS:
        return False
    return all([sign in SIGNS for sign in thing])


def is_word_of(thing, bits):
    """Tell whether a thing is a word of so many bits."""
    return is_word(thing) and len(thing) == bits


def check_word(thing):
    """Raise NoWord for what is no word."""
    if not is_word(thing):
        raise NoWord("a word is a string of 1 to 32 signs, each of them 0, 1 or ?")


def check_words(things):
    """Raise NoWord for what is no list of words, NoMatch for words of unlike numbers of bits."""
    if not isinstance(things, list) or not 1 <= len(things) <= MOST_WORDS:
        raise NoWord("words stand in a list, at least one and at most 1000")
    for thing in things:
        check_word(thing)
    check_bits(things)


def check_pair(word, other):
    """Raise NoWord if one of two is no word, NoMatch if they have unlike numbers of bits."""
    check_word(word)
    check_word(other)
    check_bits([word, other])


def check_bits(words):
    """Raise NoMatch for words with unlike numbers of bits."""
    for word in words:
        if len(word) != len(words[0]):
            raise NoMatch("the words have unlike numbers of bits")


def settlings(word):
    """Return the ascending list of the settled words that agree with a word but at its "?"."""
    check_word(word)
    if word.count("?") > MOST_OPEN_BITS:
        raise TooGreat("settlings are listed for words with at most 8 bits that are not settled")
    return spelled(["01" if sign == "?" else sign for sign in word])


def spelled(choices):
    """Return the list of all words with one sign of each choice, ascending if the signs of each one are."""
    starts = [""]
    for signs in choices:
        starts = [start + sign for start in starts for sign in signs]
    return starts


def all_words(bits):
    """Return the ascending list of all words of so many bits."""
    return spelled([SIGNS] * bits)


def settled_words(bits):
    """Return the ascending list of all settled words of so many bits."""
    return spelled(["01"] * bits)


def wider_words(word):
    """Return the ascending list of the words with just one "?" more that a word is within."""
    places = [at for at, sign in enumerate(word) if sign != "?"]
    # A "?" stands behind "0" and "1" in the order, so the word that has it last comes first.
    return [word[:at] + "?" + word[at + 1:] for at in places[::-1]]


def is_within(word, other):
    """Tell whether all settlings of a word are settlings of the other."""
    check_pair(word, other)
    return all([there in ("?", here) for here, there in zip(word, other)])


def joined(words):
    """Return the word that has at each bit what all the words have there, else "?"."""
    check_words(words)
    return "".join([shared_bit(bits) for bits in zip(*words)])


def shared_bit(bits):
    """Return what all of some bits are, or "?"."""
    return bits[0] if bits.count(bits[0]) == len(bits) else "?"


def met(word, other):
    """Return the word whose settlings are those of both words, or None if there are none."""
    check_pair(word, other)
    bits = []
    for here, there in zip(word, other):
        if here != there and "?" not in (here, there):
            return None
        bits.append(there if here == "?" else here)
    return "".join(bits)
