"""Sums, products, and words joined: each by its sum of point 11."""

import itertools
import unittest

from semirail.automata import still, trim, weight
from semirail.operations import added, followed, met, repeated, scaled
from semirail.ringof import ring_of
from tests.automata import (KINDS, good_automaton, random_automaton, samples, summed_cuts, summed_pieces, ways_of,
                            words_up_to)
from tests.samples import MADE, ODD, Numbers, Stranger, refusal, weights_of
from tests.test_automata import NO_AUTOMATA, NONE, SOME

COUNT = ring_of(("count",))
AB = {"ring": COUNT, "alphabet": "ab"}
BOTH = [added, met, followed]


class SumsTest(unittest.TestCase):
    def same(self, ring, told, wanted, long=3):
        """What is told is an automaton with the wanted weights."""
        self.assertTrue(good_automaton(ring, "ab", told), told)
        for word in words_up_to("ab", long):
            self.assertEqual(repr(weight(told, word, ring=ring, alphabet="ab")), repr(wanted(word)), (ring, word, told))

    def pairs(self, numbers, made, many):
        """Pairs of automata, of which some have no states, and some silent steps."""
        told = samples(numbers, made, "ab", many)
        return [(one, told[(at * 3 + 1) % len(told)]) for at, one in enumerate(told)] + [(told[0], told[0])]

    def test_added_and_met(self):
        numbers = Numbers(41)
        for made in MADE:
            ring = ring_of(made)
            more = {"ring": ring, "alphabet": "ab"}
            for one, other in self.pairs(numbers, made, 4):
                first, second = ways_of(ring, one), ways_of(ring, other)
                self.same(ring, added(one, other, **more), lambda word: ring.plus(first(word), second(word)))
                self.same(ring, met(one, other, **more), lambda word: ring.times(first(word), second(word)))

    def test_scaled(self):
        numbers = Numbers(42)
        for made in MADE:
            ring = ring_of(made)
            for one in samples(numbers, made, "ab", 2):
                first = ways_of(ring, one)
                for factor in weights_of(made)[:6]:
                    self.same(ring, scaled(factor, one, ring=ring, alphabet="ab"),
                              lambda word: ring.times(factor, first(word)), 2)

    def test_followed(self):
        numbers = Numbers(43)
        for made in MADE:
            ring = ring_of(made)
            for one, other in self.pairs(numbers, made, 4):
                first, second = ways_of(ring, one), ways_of(ring, other)
                self.same(ring, followed(one, other, ring=ring, alphabet="ab"),
                          lambda word: summed_cuts(ring, first, second, word), 3)

    def test_repeated(self):
        numbers = Numbers(44)
        for made in MADE:
            ring = ring_of(made)
            found = 0
            for one in samples(numbers, made, "ab", 8):
                first = ways_of(ring, one)
                if refusal(ring.star, first(""))[0] == "NoStar":
                    self.assertEqual(refusal(repeated, one, ring=ring, alphabet="ab")[0], "NoStar")
                else:
                    found += 1
                    self.same(ring, repeated(one, ring=ring, alphabet="ab"),
                              lambda word: summed_pieces(ring, first, word), 4)
            self.assertGreater(found, 0)

    def test_by_hand(self):
        letter = (2, (1, 0), (0, 1), ((0, "a", 1, 3),))
        empty = (1, (2,), (5,), ())
        self.same(COUNT, added(letter, empty, **AB), lambda word: {"a": 3, "": 10}.get(word, 0))
        self.same(COUNT, met(letter, letter, **AB), lambda word: {"a": 9}.get(word, 0))
        self.same(COUNT, followed(letter, letter, **AB), lambda word: {"aa": 9}.get(word, 0))
        self.same(COUNT, followed(letter, empty, **AB), lambda word: {"a": 30}.get(word, 0))
        self.same(COUNT, followed(empty, letter, **AB), lambda word: {"a": 30}.get(word, 0))
        self.same(COUNT, followed(empty, empty, **AB), lambda word: {"": 100}.get(word, 0))
        self.same(COUNT, repeated(letter, **AB), lambda word: 3 ** len(word) if "b" not in word else 0)
        self.same(COUNT, repeated(NONE, **AB), lambda word: {"": 1}.get(word, 0))
        self.same(COUNT, repeated(added(letter, empty, **AB), **AB), lambda word: 0 if "b" in word else "endless")
        # In rest 5 the sums of the powers of 2 don't stay, those of 0 do; in terms only those of zero.
        rest = {"ring": ring_of(("rest", 5)), "alphabet": "ab"}
        self.assertEqual(refusal(repeated, (1, (1,), (2,), ()), **rest)[0], "NoStar")
        self.assertEqual(weight(repeated((1, (1,), (0,), ((0, "a", 0, 4),)), **rest), **rest), 1)
        self.assertEqual(refusal(repeated, (1, ((((0,), 1),),), ((((0,), 1),),), ()), ring=ring_of(("terms", 1)),
                                 alphabet="a")[0], "NoStar")
        # In rest 8 the star of 2 is 7: 1, 3, 7, 7.
        eight = {"ring": ring_of(("rest", 8)), "alphabet": "ab"}
        one = (1, (1,), (2,), ((0, "a", 0, 3),))
        self.assertEqual(weight(repeated(one, **eight), "", **eight), 7)
        self.assertEqual(weight(repeated(one, **eight), "a", **eight), 7 * 6 * 7 % 8)

    def test_long_words(self):
        both = added((1, (1,), (1,), ((0, "a", 0, 2),)), (1, (1,), (1,), ((0, "a", 0, 1), (0, "b", 0, 1))), **AB)
        self.assertEqual(weight(both, "a" * 60, **AB), 2 ** 60 + 1)
        self.assertEqual(weight(met(both, both, **AB), "a" * 60, **AB), (2 ** 60 + 1) ** 2)
        ones = (1, (1,), (1,), ((0, "a", 0, 1),))
        self.assertEqual(weight(followed(ones, ones, **AB), "a" * 60, **AB), 61)
        letter = (2, (1, 0), (0, 1), ((0, "a", 1, 1),))
        twos = added(letter, followed(letter, letter, **AB), **AB)
        self.assertEqual(weight(repeated(twos, **AB), "a" * 60, **AB), 2504730781961)

    def test_one_handed_on_to_another(self):
        numbers = Numbers(45)
        for made in KINDS:
            ring = ring_of(made)
            more = {"ring": ring, "alphabet": "ab"}
            one, other = (random_automaton(numbers, made, "ab", 3, 7, silent=True) for _ in range(2))
            first, second = ways_of(ring, one), ways_of(ring, other)
            chain = followed(added(one, other, **more), met(one, other, **more), **more)
            self.same(ring, trim(still(chain, **more), **more),
                      lambda word: summed_cuts(ring, lambda part: ring.plus(first(part), second(part)),
                                               lambda part: ring.times(first(part), second(part)), word))
            # Without the empty word each has a star.
            full = met(chain, followed(added_letters(ring), every(ring), **more), **more)
            told = ways_of(ring, chain)
            self.same(ring, repeated(full, **more),
                      lambda word: summed_pieces(ring, lambda part: told(part) if part else ring.zero(), word))

    def test_many_in_one_another(self):
        letter = (2, (1, 0), (0, 1), ((0, "a", 1, 2),))
        chain, sums = letter, letter
        for _ in range(50):
            chain = followed(chain, letter, **AB)
            sums = added(sums, letter, **AB)
        self.assertEqual(weight(chain, "a" * 51, **AB), 2 ** 51)
        self.assertEqual(weight(chain, "a" * 50, **AB), 0)
        self.assertEqual(weight(sums, "a", **AB), 102)
        deep = letter
        for _ in range(20):
            deep = repeated(met(deep, letter, **AB), **AB)
        self.assertEqual(weight(deep, "a", **AB), 2 ** 21)
        self.assertEqual(weight(deep, "ab", **AB), 0)


def every(ring):
    """The automaton of one for all words."""
    return 1, (ring.one(),), (ring.one(),), ((0, "a", 0, ring.one()), (0, "b", 0, ring.one()))


def added_letters(ring):
    """The automaton of one for words of one letter."""
    one, zero = ring.one(), ring.zero()
    return 2, (one, zero), (zero, one), ((0, "a", 1, one), (0, "b", 1, one))


class RefusalsTest(unittest.TestCase):
    def test_no_automata(self):
        for thing in NO_AUTOMATA + ODD:
            for call in BOTH:
                self.assertEqual(refusal(call, thing, SOME, **AB)[0], "BadAutomaton", thing)
                self.assertEqual(refusal(call, SOME, thing, **AB)[0], "BadAutomaton", thing)
            self.assertEqual(refusal(repeated, thing, **AB)[0], "BadAutomaton", thing)
            self.assertEqual(refusal(scaled, 1, thing, **AB)[0], "BadAutomaton", thing)

    def test_no_factors(self):
        for thing in [-1, True, None, "none", "1", (1,), [1], Stranger(), b""]:
            self.assertEqual(refusal(scaled, thing, SOME, **AB)[0], "BadWeight", thing)
            self.assertEqual(refusal(scaled, thing, None, **AB)[0], "BadWeight", thing)

    def test_no_rings_and_no_alphabets(self):
        for call, many in [(added, 2), (met, 2), (followed, 2), (scaled, 2), (repeated, 1)]:
            for args in itertools.product([None, SOME, 1], repeat=many):
                for thing in [None, ("count",), "count", 3, Stranger()]:
                    self.assertEqual(refusal(call, *args, ring=thing, alphabet="ba"), ("BadRing", ("ring",)))
                for thing in [None, "", "ba", "aa", "Ab", "abcdefg", ("a",), 3]:
                    self.assertEqual(refusal(call, *args, ring=COUNT, alphabet=thing)[0], "BadWord")

    def test_silent_steps_where_there_are_none(self):
        rest = {"ring": ring_of(("rest", 6)), "alphabet": "ab"}
        silent = (1, (1,), (1,), ((0, "", 0, 1),))
        for call in BOTH:
            self.assertEqual(refusal(call, silent, NONE, **rest)[0], "BadAutomaton")
            self.assertEqual(refusal(call, NONE, silent, **rest)[0], "BadAutomaton")
        self.assertEqual(refusal(repeated, silent, **rest)[0], "BadAutomaton")
        self.assertEqual(refusal(scaled, 6, silent, **rest)[0], "BadWeight")
        self.assertEqual(refusal(scaled, 5, silent, **rest)[0], "BadAutomaton")

    def test_by_name(self):
        more = {"alphabet": "ab", "ring": COUNT}
        for call in BOTH:
            self.assertEqual(call(other=NONE, one=SOME, **more), call(SOME, NONE, **more))
        self.assertEqual(scaled(one=SOME, factor=2, **more), scaled(2, SOME, **more))
        self.assertEqual(repeated(one=SOME, **more), repeated(SOME, **more))
        for call, args in [(added, (SOME, SOME, COUNT, "ab")), (repeated, (SOME, COUNT, "ab"))]:
            with self.assertRaises(TypeError):
                call(*args)


if __name__ == "__main__":
    unittest.main()
