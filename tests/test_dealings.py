"""Words read from behind, dealt out, cut, renamed, spelled, and weights led."""

import itertools
import unittest

from semirail.automata import still, weight
from semirail.dealings import led_automaton, left, renamed, shuffled, spelled, turned
from semirail.leadings import led, led_ring
from semirail.operations import added, followed, repeated
from semirail.ringof import ring_of
from tests.automata import (KINDS, good_automaton, random_automaton, samples, summed_dealings, table_weight, ways_of,
                            words_up_to)
from tests.samples import MADE, ODD, THREE, Numbers, Stranger, refusal
from tests.test_automata import NO_AUTOMATA, NONE, SOME

COUNT = ring_of(("count",))
AB = {"ring": COUNT, "alphabet": "ab"}

LEADINGS = [
    (("terms", 2), ("unknowns", ("rest", 6), (5, 2))), (("terms", 1), ("unknowns", ("least",), (3,))),
    (("terms", 2), ("unknowns", THREE, (2, 1))), (("count",), ("some",)), (("least",), ("turned",)),
    (("most",), ("turned",)), (("lot", 3), ("bit", 0)), (("lot", 3), ("bit", 2)),
    (("pair", ("least",), ("count",)), ("first",)), (("pair", ("least",), ("count",)), ("second",)),
    (("pair", ("count",), ("rest", 2)), ("first",)), (("rest", 6), ("rest", 3)), (("rest", 6), ("rest", 6)),
]


class SumsTest(unittest.TestCase):
    def same(self, ring, told, wanted, long=3, alphabet="ab"):
        """What is told is an automaton with the wanted weights."""
        self.assertTrue(good_automaton(ring, alphabet, told), told)
        for word in words_up_to(alphabet, long):
            self.assertEqual(repr(weight(told, word, ring=ring, alphabet=alphabet)), repr(wanted(word)),
                             (ring, word, told))

    def test_turned(self):
        numbers = Numbers(51)
        for made in MADE:
            ring = ring_of(made)
            for one in samples(numbers, made, "ab", 4):
                first = ways_of(ring, one)
                self.same(ring, turned(one, ring=ring, alphabet="ab"), lambda word: first(word[::-1]))

    def test_left(self):
        numbers = Numbers(52)
        for made in MADE:
            ring = ring_of(made)
            for one in samples(numbers, made, "ab", 6):
                first = ways_of(ring, one)
                for letter in "ab":
                    self.same(ring, left(letter, one, ring=ring, alphabet="ab"), lambda word: first(letter + word), 2)

    def test_shuffled(self):
        numbers = Numbers(53)
        for made in MADE:
            ring = ring_of(made)
            told = samples(numbers, made, "ab", 4, states=3, steps=6)
            for at, one in enumerate(told):
                other = told[(at * 3 + 1) % len(told)]
                first, second = ways_of(ring, one), ways_of(ring, other)
                self.same(ring, shuffled(one, other, ring=ring, alphabet="ab"),
                          lambda word: summed_dealings(ring, first, second, word))

    def test_renamed(self):
        numbers = Numbers(54)
        for made in MADE:
            ring = ring_of(made)
            for one in samples(numbers, made, "abc", 3):
                first = ways_of(ring, one)
                for letters in ("abc", "bca", "aab", "ccc"):
                    self.same(ring, renamed(one, letters, ring=ring, alphabet="abc"),
                              lambda word: ring.total([first("".join(row)) for row in came_to(word, "abc", letters)]),
                              2, "abc")

    def test_spelled(self):
        numbers = Numbers(55)
        for made in MADE:
            ring = ring_of(made)
            for one in samples(numbers, made, "ab", 4):
                first = ways_of(ring, one)
                for words in [("a", "b"), ("b", "a"), ("", "ab"), ("ba", ""), ("", ""), ("aab", "bb")]:
                    self.same(ring, spelled(one, words, ring=ring, alphabet="ab"),
                              lambda word: first("".join(words["ab".index(letter)] for letter in word)), 2)

    def test_spelled_by_long_words(self):
        one = (1, (1,), (1,), ((0, "a", 0, 2),))
        told = spelled(one, ("a" * 60, ""), **AB)
        self.assertEqual(weight(told, "a" * 60, **AB), 2 ** 3600)
        self.assertEqual(weight(told, "b" * 60, **AB), 1)
        self.assertEqual(weight(told, "ab" * 3, **AB), 2 ** 180)

    def test_by_hand(self):
        word = (4, (1, 0, 0, 0), (0, 0, 0, 2), ((0, "a", 1, 1), (1, "b", 2, 1), (2, "b", 3, 1)))
        self.same(COUNT, turned(word, **AB), lambda told: {"bba": 2}.get(told, 0), 4)
        self.same(COUNT, left("a", word, **AB), lambda told: {"bb": 2}.get(told, 0), 4)
        self.same(COUNT, left("b", word, **AB), lambda told: 0, 4)
        self.same(COUNT, renamed(word, "ba", **AB), lambda told: {"baa": 2}.get(told, 0), 4)
        self.same(COUNT, renamed(word, "aa", **AB), lambda told: {"aaa": 2}.get(told, 0), 4)
        self.same(COUNT, spelled(word, ("ab", "b"), **AB), lambda told: {"ab": 2}.get(told, 0), 4)
        letter = (2, (1, 0), (0, 1), ((0, "a", 1, 3),))
        self.same(COUNT, shuffled(letter, letter, **AB), lambda told: {"aa": 18}.get(told, 0), 4)

    def test_silent_steps_behind_a_letter_count_once(self):
        one = (3, (1, 0, 0), (0, 1, 1), ((0, "a", 1, 1), (1, "", 2, 5), (2, "b", 2, 1)))
        self.same(COUNT, left("a", one, **AB), lambda word: {"": 6}.get(word, 0 if "a" in word else 5))
        self.same(COUNT, spelled(one, ("ab", "b"), **AB),
                  lambda word: 5 if word[:1] == "a" and "a" not in word[1:] else 0)

    def test_led(self):
        numbers = Numbers(56)
        for made, how in LEADINGS:
            ring = ring_of(made)
            goal = led_ring(ring, how)
            for one in samples(numbers, made, "ab", 8):
                first = ways_of(ring, one)
                self.same(goal, led_automaton(one, how, ring=ring, alphabet="ab"),
                          lambda word: led(ring, how, first(word)))

    def test_one_handed_on_to_another(self):
        numbers = Numbers(57)
        for made in KINDS:
            ring = ring_of(made)
            more = {"ring": ring, "alphabet": "ab"}
            one, other = (random_automaton(numbers, made, "ab", 2, 5, silent=True) for _ in range(2))
            first, second = ways_of(ring, one), ways_of(ring, other)
            told = spelled(left("a", turned(shuffled(one, other, **more), **more), **more), ("b", "aa"), **more)
            self.same(ring, still(told, **more), lambda word: summed_dealings(
                ring, first, second, (
                    "a" + "".join({"a": "b", "b": "aa"}[letter] for letter in word))[::-1]), 2)
            both = renamed(added(one, turned(other, **more), **more), "bb", **more)
            table = {word: ring.total([ring.plus(first("".join(row)), second("".join(row)[::-1]))
                                       for row in came_to(word, "ab", "bb")]) for word in words_up_to("ab", 3)}
            self.same(ring, both, lambda word: table[word])

    def test_led_of_what_others_told(self):
        lot = {"ring": ring_of(("lot", 3)), "alphabet": "ab"}
        truth = {"ring": ring_of(("truth",)), "alphabet": "ab"}
        numbers = Numbers(58)
        for _ in range(10):
            one, other = (random_automaton(numbers, ("lot", 3), "ab", 3, 6, silent=True) for _ in range(2))
            ahead = led_automaton(followed(one, repeated(other, **lot), **lot), ("bit", 1), **lot)
            one, other = (led_automaton(part, ("bit", 1), **lot) for part in (one, other))
            behind = followed(one, repeated(other, **truth), **truth)
            for word in words_up_to("ab", 3):
                self.assertIs(weight(ahead, word, **truth), table_weight(truth["ring"], behind, word))


def came_to(word, alphabet, letters):
    """All rows of letters that come to a word when each is put for its own."""
    return [row for row in itertools.product(alphabet, repeat=len(word))
            if all(letters[alphabet.index(one)] == sign for one, sign in zip(row, word))]


class RefusalsTest(unittest.TestCase):
    CALLS = [(turned, ()), (renamed, ("ab",)), (renamed, (None,)), (spelled, (("a", "b"),)), (spelled, (None,)),
             (led_automaton, (("some",),)), (led_automaton, (None,)), (shuffled, (SOME,)), (shuffled, (None,))]

    def test_no_automata(self):
        for thing in NO_AUTOMATA + ODD:
            for call, more in self.CALLS:
                self.assertEqual(refusal(call, thing, *more, **AB)[0], "BadAutomaton", thing)
            self.assertEqual(refusal(shuffled, SOME, thing, **AB)[0], "BadAutomaton", thing)
            self.assertEqual(refusal(left, "a", thing, **AB)[0], "BadAutomaton", thing)

    def test_no_letters(self):
        for thing in ["", "c", "ab", "A", None, 1, ["a"], ("a",), b"a", True, Stranger(), " ", "aa"]:
            for one in (SOME, None):
                self.assertEqual(refusal(left, thing, one, **AB)[0], "BadWord", thing)

    def test_no_renamings(self):
        for thing in ["", "a", "aba", "ac", "aA", None, 1, ["a", "b"], ("a", "b"), b"ab", True, Stranger(), "a ",
                      {"a": "b", "b": "a"}]:
            self.assertEqual(refusal(renamed, SOME, thing, **AB)[0], "BadWord", thing)
            self.assertEqual(refusal(renamed, NONE, thing, **AB)[0], "BadWord", thing)

    def test_no_spellings(self):
        for thing in ["", "ab", None, 1, ["a", "b"], (), ("a",), ("a", "b", "a"), ("a", "c"), ("C", "a"), ("a", None),
                      ("a", 1), ("a", ("b",)), ("a", "b" * 61), ("a" * 61, ""), (b"a", "b"), ("a", Stranger()),
                      {"a": "b", "b": "a"}, (True, "a")]:
            self.assertEqual(refusal(spelled, SOME, thing, **AB)[0], "BadWord", thing)
            self.assertEqual(refusal(spelled, NONE, thing, **AB)[0], "BadWord", thing)

    def test_no_leadings(self):
        for thing in [None, (), [], "some", ["some"], ("turned",), ("first",), ("bit", 0), ("some", 1), ("rest", 2),
                      ("unknowns", ("count",), ()), (None,), Stranger(), 3]:
            self.assertEqual(refusal(led_automaton, SOME, thing, **AB)[0], "BadLeading", thing)
            self.assertEqual(refusal(led_automaton, NONE, thing, **AB)[0], "BadLeading", thing)

    def test_no_rings_and_no_alphabets(self):
        for call, more in self.CALLS + [(left, (SOME,)), (left, (None,))]:
            for args in [(None, *more), (SOME, *more)]:
                for thing in [None, ("count",), "count", 3, Stranger()]:
                    self.assertEqual(refusal(call, *args, ring=thing, alphabet="ba"), ("BadRing", ("ring",)))
                for thing in [None, "", "ba", "aa", "Ab", "abcdefg", ("a",), 3]:
                    self.assertEqual(refusal(call, *args, ring=COUNT, alphabet=thing)[0], "BadWord")

    def test_by_name(self):
        more = {"alphabet": "ab", "ring": COUNT}
        self.assertEqual(turned(one=SOME, **more), turned(SOME, **more))
        self.assertEqual(shuffled(other=NONE, one=SOME, **more), shuffled(SOME, NONE, **more))
        self.assertEqual(left(one=SOME, letter="a", **more), left("a", SOME, **more))
        self.assertEqual(renamed(letters="ba", one=SOME, **more), renamed(SOME, "ba", **more))
        self.assertEqual(spelled(words=("b", ""), one=SOME, **more), spelled(SOME, ("b", ""), **more))
        self.assertEqual(led_automaton(how=("some",), one=SOME, **more), led_automaton(SOME, ("some",), **more))


if __name__ == "__main__":
    unittest.main()
