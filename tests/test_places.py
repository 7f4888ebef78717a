"""Automata of expressions."""

import unittest

from semirail.automata import need_automaton, weight
from semirail.expressions import by_cuts, is_plain
from semirail.operations import followed, met, repeated
from semirail.places import automaton_of, placed
from semirail.ringof import ring_of
from tests.automata import KINDS, good_automaton, summed_cuts, words_up_to
from tests.expressions import Sums, heads, lacks_star, parts, plain_expression, random_expression, size
from tests.samples import MADE, Numbers, refusal
from tests.test_expressions import A, AB, B, COUNT, EACH


class PlacedTest(unittest.TestCase):
    def look(self, ring, expression, words):
        """Each sentence of point 13 of the automaton with a state more than there are letters."""
        more = {"ring": ring, "alphabet": "ab"}
        told = placed(expression, **more)
        self.assertTrue(good_automaton(ring, "ab", told), told)
        states, starts, ends, steps = told
        self.assertEqual(states, 1 + heads(expression).count("letter"))
        self.assertEqual(repr(starts), repr((ring.one(),) + (ring.zero(),) * (states - 1)))
        self.assertEqual(repr(ends[0]), repr(by_cuts(expression, **more)))
        self.assertFalse(any(letter == "" or j == 0 for _, letter, j, _ in steps))
        letters = [part[1] for part in parts(expression) if part[0] == "letter"]
        told_letters = [{letter for _, letter, j, _ in steps if j == state} for state in range(1, states)]
        self.assertTrue(all(len(found) == 1 for found in told_letters), told)
        self.assertEqual(sorted(letters), sorted(found.pop() for found in told_letters))
        for word in words:
            self.assertEqual(repr(weight(told, word, **more)), repr(by_cuts(expression, word, **more)))
        self.assertEqual(told, placed(expression, **more))

    def test_each_kind(self):
        for expression in EACH:
            if is_plain(expression):
                self.look(COUNT, expression, words_up_to("ab", 4))
                self.look(COUNT, ("repeated", ("followed", expression, ("added", expression, B))), words_up_to("ab", 4))

    def test_random_ones(self):
        numbers = Numbers(81)
        for made in MADE:
            ring = ring_of(made)
            for parts in (1, 3, 5, 8, 13, 20):
                expression = plain_expression(numbers, made, "ab", parts)
                if not lacks_star(ring, expression):
                    self.look(ring, expression, words_up_to("ab", 3))

    def test_by_hand(self):
        self.assertEqual(placed(("zero",), **AB), (1, (1,), (0,), ()))
        self.assertEqual(placed(("one",), **AB), (1, (1,), (1,), ()))
        self.assertEqual(placed(expression=A, alphabet="ab", ring=COUNT), (2, (1, 0), (0, 1), ((0, "a", 1, 1),)))
        star = placed(("repeated", ("scaled", 3, A)), **AB)
        self.assertEqual(star, (2, (1, 0), (1, 1), ((0, "a", 1, 3), (1, "a", 1, 3))))
        # A letter to which nothing leads has its state, too, and a step that tells it.
        self.assertEqual(placed(("scaled", 0, A), **AB), (2, (1, 0), (0, 1), ((0, "a", 1, 0),)))
        self.assertEqual(placed(("followed", ("zero",), A), **AB), (2, (1, 0), (0, 1), ((0, "a", 1, 0),)))
        self.assertEqual(weight(placed(("repeated", ("repeated", A)), **AB), "a", **AB), "endless")

    def test_large_and_deep_ones(self):
        numbers = Numbers(82)
        for _ in range(3):
            expression = plain_expression(numbers, ("truth",), "ab", 300)
            self.look(ring_of(("truth",)), expression, ["", "a", "ab", "abba" * 5])
        chain, tree = A, A
        for turn in range(99):
            chain = ("followed", chain, (A, B)[turn % 2])
        for turn in range(99):
            tree = ("repeated", ("followed", tree, B)) if turn % 3 == 0 else ("added", A, tree)
            if size(tree)[1] >= 99:
                break
        self.look(COUNT, chain, ["", "a" + "ab" * 29])
        self.look(COUNT, tree, ["", "a", "ab", "abab", "abb"])
        letters = A
        for turn in range(149):
            letters = ("added", letters, (A, B)[turn % 2]) if turn % 2 else ("followed", letters, ("scaled", 1, B))
            if size(letters)[0] > 297:
                break
        self.look(COUNT, letters, ["", "a", "abb", "abbb"])

    def test_only_plain_ones(self):
        for expression in EACH:
            for whole in (expression, ("added", A, expression), ("repeated", ("scaled", 2, expression))):
                wanted = None if is_plain(expression) else "BadExpression"
                self.assertEqual(refusal(placed, whole, **AB)[0], wanted)
        # One that isn't plain is refused ahead of a star that isn't there.
        bad = ("repeated", ("scaled", 2, ("one",)))
        rest = {"ring": ring_of(("rest", 5)), "alphabet": "ab"}
        self.assertEqual(refusal(placed, bad, **rest)[0], "NoStar")
        self.assertEqual(refusal(placed, ("turned", bad), **rest)[0], "BadExpression")
        self.assertEqual(refusal(placed, ("added", bad, ("turned", A)), **rest)[0], "BadExpression")


class AutomatonOfTest(unittest.TestCase):
    def look(self, ring, expression, words):
        told = automaton_of(expression, ring=ring, alphabet="ab")
        self.assertTrue(good_automaton(ring, "ab", told), told)
        sums = Sums(ring)
        for word in words:
            self.assertEqual(repr(weight(told, word, ring=ring, alphabet="ab")), repr(sums.of(expression, word)),
                             (ring, expression, word))

    def test_each_kind(self):
        for made in KINDS:
            ring = ring_of(made)
            for expression in EACH:
                if expression[0] == "scaled":
                    expression = ("scaled", ring.plus(ring.one(), ring.one()), B)
                self.look(ring, expression, words_up_to("ab", 3))

    def test_random_ones(self):
        numbers = Numbers(83)
        for made in MADE:
            ring = ring_of(made)
            for parts in (1, 2, 4, 6, 8, 10):
                expression = random_expression(numbers, made, "ab", parts)
                if not lacks_star(ring, expression) and sum(head in ("met", "shuffled") for head in heads(expression)) < 5:
                    self.look(ring, expression, words_up_to("ab", 3))

    def test_large_and_deep_ones(self):
        deep = ("followed", A, B)
        for turn in range(97):
            deep = [("turned", deep), ("added", deep, ("one",)), ("scaled", 2, deep)][turn % 3]
        told = automaton_of(expression=deep, alphabet="ab", ring=COUNT)
        for word in ("", "a", "ab", "ba"):
            self.assertEqual(weight(told, word, **AB), by_cuts(deep, word, **AB))
        half = A
        while size(half)[0] < 140:
            half = ("repeated", ("added", ("followed", half, B), A)) if size(half)[0] % 3 else ("followed", half, A)
        for whole in [("met", half, ("turned", half)), ("left", "a", half), ("added", half, ("turned", half))]:
            told = automaton_of(whole, **AB)
            self.assertIsNone(need_automaton(told, **AB))
            for word in ("", "a", "aba", "abab"):
                self.assertEqual(weight(told, word, **AB), by_cuts(whole, word, **AB))

    def test_handed_on_to_operations(self):
        first, second = ("repeated", ("shuffled", A, B)), ("turned", ("followed", ("added", A, ("one",)), B))
        one, other = automaton_of(first, **AB), automaton_of(second, **AB)
        joined = repeated(met(followed(one, other, **AB), automaton_of(("repeated", ("added", A, B)), **AB), **AB), **AB)
        sums = Sums(COUNT)
        for word in words_up_to("ab", 4):
            self.assertEqual(weight(followed(one, other, **AB), word, **AB), summed_cuts(
                COUNT, lambda part: sums.of(first, part), lambda part: sums.of(second, part), word))
            self.assertEqual(weight(joined, word, **AB), sums.of(("repeated", ("followed", first, second)), word))


if __name__ == "__main__":
    unittest.main()
