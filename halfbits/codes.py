"""Codes: settled words for the numbers from 0 on, and words half done between two neighbours."""

from halfbits.counts import is_count
from halfbits.demands import are_different
from halfbits.errors import NoCode, NoCount, NoKind, NoMatch
from halfbits.words import all_words, check_word, is_within, is_word_of, joined, settlings

MOST_CODE_BITS = 8
MOST_CODE_WORDS = 256
MOST_CONVERTED_BITS = 3


def is_code(thing):
    """Tell whether a thing is a code."""
    if not isinstance(thing, tuple) or not 2 <= len(thing) <= MOST_CODE_WORDS:
        return False
    if not isinstance(thing[0], str) or len(thing[0]) > MOST_CODE_BITS:
        return False
    if not all([is_word_of(word, len(thing[0])) and "?" not in word for word in thing]):
        return False
    return are_different(thing)


def check_code(thing):
    """Raise NoCode for what is no code."""
    if not is_code(thing):
        raise NoCode("a code is a tuple of 2 to 256 different settled words of equally many bits, at most 8")


def check_short_code(thing):
    """Raise NoCode for what is no code, or one that is not converted."""
    check_code(thing)
    if len(thing[0]) > MOST_CONVERTED_BITS:
        raise NoCode("codes of at most 3 bits are converted")


def losses(code, is_ring):
    """Return the ascending list of the numbers of first neighbours with other settlings half done between."""
    check_code(code)
    if not isinstance(is_ring, bool):
        raise NoKind("a code is a ring or not: True or False")
    nexts = code[1:] + code[:1] if is_ring else code[1:]
    # Different words have a join with a "?"; one alone has no settlings but both words.
    return [
        number
        for number, (word, later) in enumerate(zip(code, nexts))
        if joined([word, later]).count("?") > 1
    ]


def read_as(code, word):
    """Return the ascending list of the numbers whose words are settlings of a word."""
    check_code(code)
    check_word(word)
    if len(word) != len(code[0]):
        raise NoMatch("the word has another number of bits than the words of the code")
    return [number for number, settled in enumerate(code) if is_within(settled, word)]


def reflected(bits):
    """Return the code of all words of so many bits of which each two neighbours differ in one bit."""
    if not is_count(bits, 1, MOST_CODE_BITS):
        raise NoCount("a reflected code has from 1 to 8 bits")
    code = ("",)
    for _ in range(bits):
        code = tuple(["0" + word for word in code] + ["1" + word for word in code[::-1]])
    return code


def conversion(code, other):
    """Return the half demand to go from one code to the other."""
    check_short_code(code)
    check_short_code(other)
    if len(code) != len(other):
        raise NoMatch("the codes have unlike numbers of words")
    wishes = []
    for word in all_words(len(code[0])):
        lets = lets_between(code, other, word)
        if len(lets) > 0:
            wishes.append((word, lets))
    return (len(code[0]), len(other[0]), tuple(wishes))


def lets_between(code, other, word):
    """Return the lets that a conversion has at a word, none where it has no wish."""
    if word.count("?") > 1:
        return ()
    settled = settlings(word)
    if not all([one in code for one in settled]):
        return ()
    numbers = sorted([code.index(one) for one in settled])
    if len(numbers) == 1:
        return (other[numbers[0]],)
    # A dict keeps each join once, in the order in which they come.
    joins = {joined([other[number], other[number + 1]]): True for number in range(numbers[0], numbers[1])}
    return tuple(joins)
