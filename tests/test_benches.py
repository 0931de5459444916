"""Promises [1] and [16]: benches on which half demands grow."""

import itertools
import random
import unittest

from halfbits.benches import Bench
from halfbits.errors import BitError, NoCount, NoDemand, NoLets, NotThere, NoUndo, NoWord, TooGreat
from halfbits.refusals import refusal_of, shows_refusal
from halfbits.rounds import least_rounds, outlines_of, shows_outlines
from halfbits.stores import is_half_demand
from tests.halves import NO_COUNTS_OF_ROUNDS, half_words_of, made_tight_demand
from tests.support import NO_WORDS, BitCase, odd_things, words_of

NO_NUMBERS = [0, 4, -1, 10 ** 12, True, False, None, "1", "", (1,), [1], {}]


def made_bench(n, m, wishes):
    """A bench that was told some wishes in their order."""
    bench = Bench(n, m)
    for word, lets in wishes:
        bench.tell(word, lets)
    return bench


def made_lets(source, m, most=3):
    """Lets picked by a source of numbers."""
    return tuple(source.sample(words_of(m), source.randint(1, min(most, 3 ** m))))


def what(bench):
    """All that can be seen of a bench without a deed and without an answer."""
    return (bench.demand() if len(bench) else None, len(bench))


def deeds_of(bench):
    """How many deeds stand on a bench; none of them does behind this."""
    many = 0
    while True:
        try:
            bench.undo()
        except NoUndo:
            return many
        many += 1


class DeedsTest(BitCase):
    def test_a_new_bench(self):
        for n, m in itertools.product(range(1, 4), repeat=2):
            bench = Bench(n, m)
            self.assertEqual(len(bench), 0)
            for method, arguments in ((bench.demand, ()), (bench.ask, (1,)), (bench.ask, (0,)), (bench.least, ())):
                self.assert_raises_just(NoDemand, method, *arguments)
            self.assert_raises_just(NoUndo, bench.undo)
            self.assert_raises_just(NotThere, bench.withdraw, "0" * n)
            self.assertIsNone(bench.tell("?" + "1" * (n - 1), ("?" * m,)))
            self.assertEqual(bench.demand(), (n, m, (("?" + "1" * (n - 1), ("?" * m,)),)))
        self.assertEqual(len(Bench(m=1, n=2)), 0)

    def test_numbers_of_inputs_and_outs(self):
        for number in NO_NUMBERS:
            for other in (1, 3, 0, None):
                self.assert_raises_just(NoCount, Bench, number, other)
            self.assert_raises_just(NoCount, Bench, 3, number)

    def test_worked_bench(self):
        bench = made_bench(1, 2, (("0", ("00",)), ("1", ("11",)), ("?", ("0?", "?1"))))
        self.assertEqual([bench.least(), bench.ask(1)[0], len(bench)], [2, "refusal", 3])
        self.assertEqual(bench.ask(r=2), ("outlines", ((("0", "00"), ("1", "11")), (("00", "01", "11"),))))

    def test_wishes_ascending(self):
        words = half_words_of(2)
        for seed in range(10):
            source = random.Random(seed)
            told = source.sample(words, len(words))
            bench = made_bench(2, 1, [(word, ("0", "?")) for word in told])
            self.assertEqual(bench.demand(), (2, 1, tuple((word, ("0", "?")) for word in sorted(words))))
            self.assertIs(is_half_demand(bench.demand()), True)

    def test_tell_anew(self):
        bench = made_bench(1, 1, [("0", ("0",)), ("?", ("1",))])
        self.assertIsNone(bench.tell("0", ("1", "?")))
        self.assertEqual(what(bench), ((1, 1, (("0", ("1", "?")), ("?", ("1",)))), 2))
        bench.undo()
        self.assertEqual(what(bench), ((1, 1, (("0", ("0",)), ("?", ("1",)))), 2))
        bench.tell("0", ("0",))
        self.assertEqual(deeds_of(bench), 3)

    def test_withdraw(self):
        bench = made_bench(1, 1, [("0", ("0",)), ("?", ("1",))])
        self.assertIsNone(bench.withdraw("0"))
        self.assertEqual(what(bench), ((1, 1, (("?", ("1",)),)), 1))
        self.assert_raises_just(NotThere, bench.withdraw, "0")
        self.assert_raises_just(NotThere, bench.withdraw, "1")
        bench.withdraw(word="?")
        self.assertEqual(len(bench), 0)
        self.assert_raises_just(NoDemand, bench.demand)
        bench.undo()
        self.assertEqual(what(bench), ((1, 1, (("?", ("1",)),)), 1))
        bench.undo()
        self.assertEqual(what(bench), ((1, 1, (("0", ("0",)), ("?", ("1",)))), 2))
        self.assertEqual(deeds_of(bench), 2)

    def test_undo_to_the_beginning(self):
        bench = Bench(2, 1)
        seen = [what(bench)]
        for deed in (("tell", "00", ("0",)), ("tell", "0?", ("?",)), ("tell", "00", ("1",)), ("withdraw", "0?"),
                     ("tell", "?1", ("0", "1")), ("withdraw", "00"), ("withdraw", "?1"), ("tell", "11", ("1",))):
            self.assertIsNone(getattr(bench, deed[0])(*deed[1:]))
            seen.append(what(bench))
        while len(seen) > 1:
            self.assertEqual(what(bench), seen.pop())
            self.assertIsNone(bench.undo())
        self.assertEqual(what(bench), seen[0])
        for _ in range(2):
            self.assert_raises_just(NoUndo, bench.undo)
            for method, arguments in ((bench.demand, ()), (bench.ask, (True,)), (bench.least, ())):
                self.assert_raises_just(NoDemand, method, *arguments)
        bench.tell(lets=("0",), word="10")
        self.assertEqual(what(bench), ((2, 1, (("10", ("0",)),)), 1))

    def test_another_bench_stays_as_it_is(self):
        bench, other = made_bench(1, 1, [("0", ("0",))]), made_bench(1, 1, [("1", ("1",))])
        bench.tell("?", ("?",))
        self.assertEqual(what(other), ((1, 1, (("1", ("1",)),)), 1))
        other.withdraw("1")
        self.assertEqual(what(bench), ((1, 1, (("0", ("0",)), ("?", ("?",)))), 2))
        demand = bench.demand()
        bench.undo()
        self.assertEqual(demand, (1, 1, (("0", ("0",)), ("?", ("?",)))))

    def test_made_deeds(self):
        source = random.Random(140)
        for _ in range(60):
            n, m = source.randint(1, 3), source.randint(1, 3)
            bench, rows = Bench(n, m), [{}]
            for _ in range(40):
                word = source.choice(half_words_of(n))
                kind = source.choice(("tell", "tell", "withdraw", "undo"))
                if kind == "tell":
                    lets = made_lets(source, m)
                    bench.tell(word, lets)
                    rows.append({**rows[-1], word: lets})
                elif kind == "withdraw" and word in rows[-1]:
                    bench.withdraw(word)
                    rows.append({other: rows[-1][other] for other in rows[-1] if other != word})
                elif kind == "withdraw":
                    self.assert_raises_just(NotThere, bench.withdraw, word)
                elif len(rows) > 1:
                    bench.undo()
                    rows.pop()
                else:
                    self.assert_raises_just(NoUndo, bench.undo)
                wishes = tuple(sorted(rows[-1].items()))
                self.assertEqual(what(bench), ((n, m, wishes) if wishes else None, len(wishes)))
            self.assertEqual(deeds_of(bench), len(rows) - 1)


class RefusedDeedsTest(BitCase):
    def assert_refused(self, error, bench, method, *arguments):
        before = what(bench)
        self.assert_raises_just(error, getattr(bench, method), *arguments)
        self.assertEqual(what(bench), before)

    def test_words_that_cannot_be_told(self):
        for n in (1, 2, 3):
            bench = made_bench(n, 1, [("0" * n, ("0",))])
            wrong = [word for word in words_of(n) if word.count("?") > 1] + ["0" * (n + 1), "?" * (n + 1), "0" * (n - 1)]
            for word in wrong + NO_WORDS + odd_things():
                self.assert_refused(NoWord, bench, "tell", word, ("0",))
                self.assert_refused(NoWord, bench, "tell", word, ())
                self.assert_refused(NoWord, bench, "withdraw", word)
            self.assertEqual(deeds_of(bench), 1)

    def test_lets_that_are_none(self):
        bench = made_bench(1, 2, [("0", ("00",))])
        wrong = [
            (), tuple(words_of(2)), ("00", "00"), ("0?", "11", "0?"), ("0",), ("000",), ("00", "0"), ["00"], "00", None,
            ("x0",), (None,), (0,), (True,), ("00", None), (("00",),), (["00"],), {"00": 1}, {}, True, 1, "", ("",),
        ]
        for lets in wrong + odd_things():
            self.assert_refused(NoLets, bench, "tell", "0", lets)
            self.assert_refused(NoLets, bench, "tell", "1", lets)
        self.assert_refused(NoLets, Bench(1, 3), "tell", "0", tuple(words_of(3)[:9]))
        bench.tell("?", tuple(words_of(2)[:8]))
        self.assertEqual(deeds_of(bench), 2)

    def test_words_that_were_not_told(self):
        bench = made_bench(2, 1, [("0?", ("0",)), ("11", ("1",))])
        for word in half_words_of(2):
            if word not in ("0?", "11"):
                self.assert_refused(NotThere, bench, "withdraw", word)
        self.assertEqual(deeds_of(bench), 2)

    def test_a_hundred_deeds(self):
        bench = Bench(1, 1)
        for turn in range(50):
            bench.tell("?", ("01?"[turn % 3],))
            bench.withdraw("?")
        self.assert_raises_just(TooGreat, bench.tell, "?", ("0",))
        self.assert_raises_just(NotThere, bench.withdraw, "?")
        self.assert_raises_just(NoWord, bench.tell, "??", ("0",))
        self.assert_raises_just(NoLets, bench.tell, "?", ())
        self.assert_raises_just(NoDemand, bench.demand)
        bench.undo()
        self.assertEqual(what(bench), ((1, 1, (("?", ("1",)),)), 1))
        bench.tell("0", ("0",))
        self.assert_refused(TooGreat, bench, "tell", "0", ("1",))
        self.assert_refused(TooGreat, bench, "withdraw", "0")
        self.assert_refused(NotThere, bench, "withdraw", "1")
        self.assert_refused(NoWord, bench, "withdraw", "11")
        self.assertIsNone(bench.least())
        self.assertEqual(deeds_of(bench), 100)
        for _ in range(100):
            bench.tell("0", ("0",))
        self.assert_refused(TooGreat, bench, "tell", "0", ("0",))

    def test_undo_behind_a_refused_deed(self):
        bench = made_bench(1, 1, [("0", ("0",)), ("1", ("1",))])
        for method, arguments in (("tell", ("x", ("0",))), ("tell", ("0", ())), ("withdraw", ("?",)), ("ask", (9,))):
            with self.assertRaises(BitError):
                getattr(bench, method)(*arguments)
        bench.undo()
        self.assertEqual(what(bench), ((1, 1, (("0", ("0",)),)), 1))


class AnswersTest(BitCase):
    def assert_answers_as(self, bench, demand, r):
        kind, shown = bench.ask(r)
        self.assertIs(kind == "outlines", outlines_of(demand, r) is not None)
        self.assertIs(kind == "refusal", refusal_of(demand, r) is not None)
        shows = shows_outlines if kind == "outlines" else shows_refusal
        self.assertIs(shows(demand, r, shown), True)

    def test_made_benches(self):
        source = random.Random(141)
        found = set()
        for _ in range(120):
            n, m = source.randint(1, 3), source.randint(1, 3)
            bench = Bench(n, m)
            for word in source.sample(half_words_of(n), source.randint(1, len(half_words_of(n)))):
                bench.tell(word, made_lets(source, m, 6))
            demand = bench.demand()
            self.assertEqual(bench.least(), least_rounds(demand))
            for r in (1, 2, 8):
                self.assert_answers_as(bench, demand, r)
                found.add((r, bench.ask(r)[0]))
            self.assertEqual(bench.demand(), demand)
        self.assertEqual(len(found), 6)

    def test_no_number_of_rounds(self):
        bench = made_bench(1, 1, [("0", ("0",))])
        for r in NO_COUNTS_OF_ROUNDS:
            self.assert_raises_just(NoCount, bench.ask, r)
            self.assert_raises_just(NoDemand, Bench(1, 1).ask, r)

    def test_one_wish_more_and_one_let_more(self):
        source = random.Random(142)
        seen = set()
        for turn in range(80):
            n, m = source.randint(1, 2), source.randint(1, 2)
            wishes = [(word, made_lets(source, m)) for word in source.sample(half_words_of(n), len(half_words_of(n)))]
            bench = Bench(n, m)
            least = 0
            for word, lets in wishes if turn % 2 else made_tight_demand(source, n, m)[2]:
                bench.tell(word, lets)
                after = bench.least()
                self.assertTrue(after is None or (least is not None and after >= least))
                seen.add((least, after))
                least = after
            for word, lets in bench.demand()[2] if len(bench) else ():
                more = [let for let in words_of(m) if let not in lets]
                if more and len(lets) < 8:
                    bench.tell(word, lets + (source.choice(more),))
                    after = bench.least()
                    self.assertTrue(least is None or (after is not None and after <= least))
                    seen.add((least, after))
                    least = after
        self.assertLessEqual({(0, 1), (1, 2), (1, None), (None, 1)}, seen)

    def test_the_order_of_tellings_does_not_matter(self):
        source = random.Random(143)
        for _ in range(30):
            wishes = [(word, made_lets(source, 2)) for word in half_words_of(2)]
            bench = made_bench(2, 2, wishes)
            for _ in range(3):
                other = made_bench(2, 2, source.sample(wishes, len(wishes)))
                self.assertEqual(other.demand(), bench.demand())
                self.assertEqual(other.least(), bench.least())
                self.assertEqual(other.ask(1), bench.ask(1))

    def test_greatest_benches(self):
        source = random.Random(144)
        for _ in range(6):
            wishes = [(word, tuple(source.sample(words_of(3), 8))) for word in half_words_of(3)]
            bench = made_bench(3, 3, wishes * 5)
            self.assertEqual(len(bench), 20)
            self.assert_raises_just(TooGreat, bench.tell, *wishes[0])
            for r in (1, 8):
                self.assert_answers_as(bench, bench.demand(), r)
            self.assertEqual(bench.least(), least_rounds(bench.demand()))


if __name__ == "__main__":
    unittest.main()
