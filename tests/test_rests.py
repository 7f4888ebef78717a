"""What letters leave of expressions."""

import unittest

from semirail.automata import weight
from semirail.back import expression_of
from semirail.expressions import by_cuts, is_plain, need_expression
from semirail.places import automaton_of
from semirail.rests import by_rests, rest
from semirail.ringof import ring_of
from tests.automata import KINDS, random_automaton, words_up_to
from tests.expressions import Sums, heads, lacks_star, plain_expression, random_expression, size
from tests.samples import MADE, Numbers, Stranger, refusal
from tests.test_expressions import A, AB, B, EACH


class RestTest(unittest.TestCase):
    def look(self, ring, expression, long):
        """The rest by each letter gives what LEFT gives, and has the kinds of parts that are told."""
        sums = Sums(ring)
        for letter in "ab":
            told = rest(expression, letter, ring=ring, alphabet="ab")
            self.assertIsNone(need_expression(told, ring=ring, alphabet="ab"))
            self.assertTrue(is_plain(told) or not is_plain(expression), told)
            self.assertTrue("left" not in heads(told) or "left" in heads(expression), told)
            for word in words_up_to("ab", long):
                wanted = repr(sums.of(expression, letter + word))
                self.assertEqual(repr(sums.of(told, word)), wanted, (ring, expression, letter, word))
                self.assertEqual(repr(by_cuts(told, word, ring=ring, alphabet="ab")), wanted)

    def test_each_kind(self):
        for made in KINDS:
            ring = ring_of(made)
            for expression in EACH:
                if expression[0] == "scaled":
                    expression = ("scaled", ring.plus(ring.one(), ring.one()), B)
                self.look(ring, expression, 3)
                self.look(ring, ("followed", expression, ("added", expression, ("one",))), 3)

    def test_random_ones(self):
        numbers = Numbers(71)
        for made in MADE:
            ring = ring_of(made)
            for parts in (2, 4, 5, 7, 8):
                for expression in [random_expression(numbers, made, "ab", parts),
                                   plain_expression(numbers, made, "ab", parts)]:
                    if not lacks_star(ring, expression) and heads(expression).count("left") < 4:
                        self.look(ring, expression, 2)

    def test_by_rests_and_by_cuts_tell_the_same(self):
        numbers = Numbers(72)
        for made in MADE:
            ring = ring_of(made)
            for parts in (3, 6, 9, 12):
                expression = random_expression(numbers, made, "ab", parts)
                if not lacks_star(ring, expression) and heads(expression).count("left") < 4:
                    for word in words_up_to("ab", 3):
                        self.assertEqual(repr(by_rests(expression, word, ring=ring, alphabet="ab")),
                                         repr(by_cuts(expression, word, ring=ring, alphabet="ab")),
                                         (ring, expression, word))

    def test_rests_of_rests(self):
        numbers = Numbers(73)
        for made in KINDS:
            ring = ring_of(made)
            more = {"ring": ring, "alphabet": "ab"}
            for parts in (5, 8):
                for whole in [random_expression(numbers, made, "ab", parts), plain_expression(numbers, made, "ab", 12)]:
                    if lacks_star(ring, whole) or heads(whole).count("left") > 3:
                        continue
                    for word in ("ab", "abb", "aaab"):
                        told = whole
                        for letter in word:
                            told = rest(told, letter, **more)
                            self.assertIsNone(need_expression(told, **more))
                        for end in ("", "b"):
                            wanted = repr(by_cuts(whole, word + end, **more))
                            self.assertEqual(repr(by_cuts(told, end, **more)), wanted)
                            self.assertEqual(repr(by_rests(told, end, **more)), wanted)
                            self.assertEqual(repr(weight(automaton_of(told, **more), end, **more)), wanted)

    def test_rests_of_what_expression_of_tells(self):
        numbers = Numbers(74)
        for made in KINDS:
            more = {"ring": ring_of(made), "alphabet": "ab"}
            automaton = random_automaton(numbers, made, "ab", 4, 9, silent=True)
            told = expression_of(automaton, **more)
            for letter in "abb":
                told = rest(told, letter, **more)
                self.assertTrue(is_plain(told))
            for word in words_up_to("ab", 2):
                wanted = repr(weight(automaton, "abb" + word, **more))
                self.assertEqual(repr(by_rests(told, word, **more)), wanted)
                self.assertEqual(repr(by_cuts(told, word, **more)), wanted)
                self.assertEqual(repr(weight(automaton_of(told, **more), word, **more)), wanted)

    def test_by_hand(self):
        for expression in [("zero",), ("one",), B]:
            self.assertEqual(by_rests(rest(expression, "a", **AB), "", **AB), 0)
        self.assertEqual(by_rests(rest(A, "a", **AB), **AB), 1)
        self.assertEqual(by_rests(word="ab", expression=("shuffled", A, B), alphabet="ab", ring=AB["ring"]), 1)
        self.assertEqual(by_rests(("left", "a", ("followed", A, B)), "b", **AB), 1)
        self.assertEqual(by_rests(("left", "b", ("turned", ("followed", A, B))), "a", **AB), 1)
        told = rest(letter="b", expression=("turned", ("left", "a", ("followed", A, ("followed", A, B)))), **AB)
        self.assertEqual([by_cuts(told, word, **AB) for word in ("", "a", "b", "aa")], [0, 1, 0, 0])

    def test_eight_letters(self):
        both = ("repeated", ("added", A, ("scaled", 2, B)))
        for expression, wanted in [(both, 16), (("shuffled", both, both), 16 * 256), (("met", both, both), 256),
                                   (("followed", both, both), 9 * 16), (("turned", both), 16),
                                   (("repeated", ("shuffled", A, B)), 1)]:
            self.assertEqual(by_rests(expression, "abababab"[:8], **AB), wanted)

    def test_large_ones(self):
        numbers = Numbers(75)
        for _ in range(4):
            expression = plain_expression(numbers, ("truth",), "ab", 300)
            more = {"ring": ring_of(("truth",)), "alphabet": "ab"}
            told = expression
            for letter in "ab":
                told = rest(told, letter, **more)
            for word in ("", "a", "abba"):
                self.assertIs(by_rests(told, word, **more), by_cuts(expression, "ab" + word, **more))

    def test_deep_ones_stay_shallow(self):
        # What many places leave isn't strung together one in another.
        deep = A
        for turn in range(60):
            deep = ("followed", ("repeated", (A, B)[turn % 2]), deep)
        told = deep
        for letter in "abab":
            told = rest(told, letter, **AB)
            self.assertLessEqual(size(told)[1], size(deep)[1] + 10)
        self.assertEqual(by_cuts(told, "a", **AB), by_cuts(deep, "ababa", **AB))

    def test_they_stay_small(self):
        # What is zero, or one beside another, isn't kept, nor is the same kept twice: however many letters come.
        pair, more = ("followed", A, ("repeated", B)), ("added", ("scaled", 2, A), ("followed", A, B))
        for expression in [("repeated", pair), ("repeated", more), ("followed", ("repeated", more), ("repeated", pair)),
                           ("shuffled", pair, ("added", A, B)), ("met", ("repeated", more), ("repeated", pair)),
                           ("followed", ("scaled", 2, ("one",)), ("repeated", ("added", A, B))),
                           ("repeated", ("followed", ("added", A, B), ("scaled", 3, ("one",))))]:
            for word in ("abababab", "aaaabbbb", "abbbbbbb", "bbbbbbbb"):
                told = expression
                for letter in word:
                    told = rest(told, letter, **AB)
                    self.assertLessEqual(size(told)[0], 5 * size(expression)[0], (expression, told))
        for expression, letter, wanted in [
                (A, "a", ("one",)), (A, "b", ("zero",)), (("followed", A, B), "a", B), (("repeated", A), "b", ("zero",)),
                (("followed", A, ("one",)), "a", ("one",)), (("added", A, A), "b", ("zero",)),
                (("met", A, B), "a", ("zero",)), (("shuffled", A, B), "a", B), (("shuffled", B, A), "a", B),
                (("scaled", 0, A), "a", ("zero",)), (("scaled", 1, A), "a", ("one",))]:
            self.assertEqual(rest(expression, letter, **AB), wanted)

    def test_no_letters(self):
        for thing in ["", "c", "ab", "A", None, 1, ["a"], ("a",), b"a", True, Stranger(), " ", "aa"]:
            self.assertEqual(refusal(rest, A, thing, **AB)[0], "BadWord", thing)
            self.assertEqual(refusal(rest, None, thing, **AB)[0], "BadExpression", thing)


if __name__ == "__main__":
    unittest.main()
