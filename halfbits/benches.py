"""Benches on which half demands grow."""

from halfbits.boards import Standing
from halfbits.counts import is_count
from halfbits.demands import are_lets
from halfbits.errors import NoCount, NoDemand, NoLets, NotThere, NoWord
from halfbits.refusals import refusal_of
from halfbits.rounds import least_rounds, outlines_of
from halfbits.words import is_word_of

MOST_INPUTS = 3
MOST_OUTS = 3
MOST_DEEDS = 100


class Bench:
    """A half demand that grows; what stands holds a dict of the lets at the words that were told."""

    def __init__(self, n, m):
        if not is_count(n, 1, MOST_INPUTS):
            raise NoCount("a bench has from 1 to 3 inputs")
        if not is_count(m, 1, MOST_OUTS):
            raise NoCount("a bench has from 1 to 3 outs")
        self.n = n
        self.m = m
        self.standing = Standing({}, None)

    def __len__(self):
        """Return the number of the wishes."""
        return len(self.standing.held)

    def tell(self, word, lets):
        """Let these at a word, in place of what was let there."""
        self.check_told(word)
        if not are_lets(lets, self.m):
            raise NoLets("lets are a tuple of 1 to 8 different words with a bit for each out")
        held = self.standing.held
        self.stand({**held, word: lets})

    def withdraw(self, word):
        """Take the wish of a word away."""
        self.check_told(word)
        held = self.standing.held
        if word not in held:
            raise NotThere("this word was not told")
        self.stand({other: held[other] for other in held if other != word})

    def check_told(self, thing):
        """Raise NoWord for what is no word that can be told."""
        if not is_word_of(thing, self.n) or thing.count("?") > 1:
            raise NoWord("a word that is told has a bit for each input, at most one of them not settled")

    def stand(self, held):
        """Let wishes stand as the last deed leaves them."""
        self.standing = self.standing.behind(held, MOST_DEEDS)

    def undo(self):
        """Take the last deed back that stands."""
        self.standing = self.standing.ahead()

    def demand(self):
        """Return the half demand, its wishes ascending by their words."""
        held = self.standing.held
        if len(held) == 0:
            raise NoDemand("there are no wishes")
        return (self.n, self.m, tuple([(word, held[word]) for word in sorted(held)]))

    def ask(self, r):
        """Return outlines in r rounds, or a refusal, each behind its name."""
        demand = self.demand()
        outlines = outlines_of(demand, r)
        if outlines is None:
            return ("refusal", refusal_of(demand, r))
        return ("outlines", outlines)

    def least(self):
        """Return the least number of rounds in which there are outlines, or None."""
        return least_rounds(self.demand())
