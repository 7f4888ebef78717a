"""What an expression is, which are plain, and weights by cuts."""

import unittest

from semirail.automata import weight
from semirail.expressions import by_cuts, is_plain, need_expression
from semirail.places import automaton_of, placed
from semirail.rests import by_rests, rest
from semirail.ringof import ring_of
from tests.automata import KINDS, words_up_to
from tests.expressions import (OTHERS, PLAIN_HEADS, Sums, heads, lacks_star, otherwise, plain_expression,
                               random_expression)
from tests.samples import MADE, ODD, Numbers, Stranger, refusal, weights_of

COUNT = ring_of(("count",))
AB = {"ring": COUNT, "alphabet": "ab"}
A, B = ("letter", "a"), ("letter", "b")
EACH = [("zero",), ("one",), A, ("scaled", 3, B), ("added", A, B), ("followed", A, B), ("repeated", A), ("met", A, A),
        ("turned", B), ("shuffled", A, B), ("left", "a", B)]
# Each that reads an expression, with what it is handed behind it.
CALLS = [(need_expression, ()), (by_cuts, ("",)), (by_cuts, (None,)), (by_rests, ("",)), (by_rests, (None,)),
         (rest, ("a",)), (rest, (None,)), (placed, ()), (automaton_of, ())]


def stars_that_lack(made):
    """Plain expressions with a star that isn't there, deep inside and beside zero; none where all are there."""
    ring = ring_of(made)
    for worth in weights_of(made):
        if refusal(ring.star, worth)[0] == "NoStar":
            bad = ("repeated", ("scaled", worth, ("one",)))
            return [bad, ("followed", ("zero",), bad), ("scaled", ring.zero(), bad), ("added", A, ("repeated", bad)),
                    ("followed", ("followed", A, ("added", bad, ("zero",))), B),
                    ("repeated", ("followed", A, ("scaled", ring.one(), bad))),
                    ("repeated", ("added", A, ("scaled", worth, ("repeated", B))))]
    return []


class NeedExpressionTest(unittest.TestCase):
    def test_each_kind(self):
        for expression in EACH:
            self.assertIsNone(need_expression(expression, **AB))
            self.assertIsNone(need_expression(thing=("repeated", expression), alphabet="ab", ring=COUNT))

    def test_random_ones(self):
        numbers = Numbers(61)
        for made in MADE:
            for parts in (1, 3, 9, 30):
                expression = random_expression(numbers, made, "adz", parts)
                self.assertIsNone(need_expression(expression, ring=ring_of(made), alphabet="adz"))

    def test_deep_and_large_ones(self):
        deep = A
        for _ in range(99):
            deep = ("turned", deep)
        self.assertIsNone(need_expression(deep, **AB))
        self.assertEqual(refusal(need_expression, ("added", deep, ("letter", "c")), **AB)[0], "BadExpression")
        large = A
        for _ in range(149):
            large = ("added", large, A) if heads(large).count("added") % 2 else ("added", A, large)
        self.assertIsNone(need_expression(large, **AB))

    def test_one_part_otherwise(self):
        numbers = Numbers(62)
        for expression in EACH + [random_expression(numbers, ("count",), "ab", 7) for _ in range(6)]:
            for thing in otherwise(expression, "ab"):
                self.assertEqual(refusal(need_expression, thing, **AB)[0], "BadExpression", thing)

    def test_odd_things(self):
        for thing in ODD + [("count",), ("one",) * 2, ["one"], "one", ("name", "a"), ("zero", None), Stranger()]:
            for call, more in CALLS:
                self.assertEqual(refusal(call, thing, *more, **AB)[0], "BadExpression", thing)
                self.assertEqual(refusal(call, ("added", A, thing), *more, **AB)[0], "BadExpression", thing)

    def test_weights_and_letters_of_others(self):
        for made, worth in [(("truth",), 1), (("count",), True), (("count",), -1), (("rest", 6), 6), (("lot", 3), 8),
                            (("share",), (2, 4)), (("terms", 1), (((0,), 0),)), (("least",), (1,))]:
            more = {"ring": ring_of(made), "alphabet": "ab"}
            self.assertEqual(refusal(need_expression, ("scaled", worth, A), **more)[0], "BadExpression")
            self.assertIsNone(need_expression(("scaled", more["ring"].one(), A), **more))
        for letter in ["c", "", "ab", "A", b"a", 1, None, ("a",), " "]:
            self.assertEqual(refusal(need_expression, ("letter", letter), **AB)[0], "BadExpression")
            self.assertEqual(refusal(need_expression, ("left", letter, A), **AB)[0], "BadExpression")

    def test_a_star_is_not_looked_at(self):
        for made in MADE:
            for expression in stars_that_lack(made):
                self.assertIsNone(need_expression(expression, ring=ring_of(made), alphabet="ab"))
                self.assertIs(is_plain(expression), True)

    def test_rings_and_alphabets_go_ahead(self):
        for call, more in CALLS:
            for expression in (A, None):
                for thing in [None, ("count",), "count", 3, Stranger()]:
                    self.assertEqual(refusal(call, expression, *more, ring=thing, alphabet="ba"), ("BadRing", ("ring",)))
                for thing in [None, "", "ba", "aa", "Ab", "abcdefg", ("a",), 3]:
                    self.assertEqual(refusal(call, expression, *more, ring=COUNT, alphabet=thing)[0], "BadWord")


class IsPlainTest(unittest.TestCase):
    def test_plain_ones(self):
        for expression in EACH:
            self.assertIs(is_plain(expression), expression[0] in PLAIN_HEADS)
            self.assertIs(is_plain(thing=("repeated", ("added", A, expression))), expression[0] in PLAIN_HEADS)
            for other in OTHERS:
                whole = {"met": ("met", A, expression), "shuffled": ("shuffled", expression, A),
                         "turned": ("turned", expression), "left": ("left", "a", expression)}[other]
                self.assertIs(is_plain(whole), False)
                self.assertIs(is_plain(("followed", A, ("scaled", (1, 2), whole))), False)

    def test_random_ones(self):
        numbers = Numbers(63)
        for made in MADE:
            for parts in (2, 5, 12):
                expression = random_expression(numbers, made, "ab", parts)
                self.assertIs(is_plain(expression), not OTHERS & set(heads(expression)))
                self.assertIs(is_plain(plain_expression(numbers, made, "ab", parts)), True)

    def test_what_is_none(self):
        for thing in ODD + [("name", "a"), ("one", A), ("letter",), ("added", A), ("scaled", A), [A]]:
            self.assertIs(is_plain(thing), False)
            self.assertIs(is_plain(("repeated", ("followed", A, thing))), False)


class ByCutsTest(unittest.TestCase):
    def same(self, ring, expression, long):
        sums = Sums(ring)
        for word in words_up_to("ab", long):
            self.assertEqual(repr(by_cuts(expression, word, ring=ring, alphabet="ab")),
                             repr(sums.of(expression, word)), (ring, expression, word))

    def test_by_sums_written_out(self):
        numbers = Numbers(64)
        for made in MADE:
            ring = ring_of(made)
            for parts in (1, 2, 3, 4, 5, 6, 7, 9):
                expression = random_expression(numbers, made, "ab", parts)
                if not lacks_star(ring, expression):
                    self.same(ring, expression, 4 if made in KINDS else 3)

    def test_each_within_the_others(self):
        for made in KINDS:
            ring = ring_of(made)
            worth = weights_of(made)[-1]
            ab = ("followed", ("added", A, ("scaled", worth, B)), ("added", ("one",), B))
            for first in (("met", ab, ("added", ab, A)), ("turned", ab), ("shuffled", ab, A), ("left", "a", ab)):
                for whole in (("met", first, ("added", B, first)), ("turned", ("followed", first, A)),
                              ("shuffled", first, ("turned", first)), ("left", "b", ("shuffled", A, first)),
                              ("left", "b", ("left", "a", ("shuffled", first, A))), ("added", first, ("turned", first)),
                              ("scaled", worth, ("followed", first, first)),
                              ("repeated", ("met", first, ("added", A, B)))):
                    self.same(ring, whole, 3)

    def test_by_hand(self):
        self.assertEqual(by_cuts(("one",), **AB), 1)
        self.assertEqual(by_cuts(("zero",), "", **AB), 0)
        self.assertEqual(by_cuts(word="a", expression=A, alphabet="ab", ring=COUNT), 1)
        self.assertEqual(by_cuts(("shuffled", A, A), "aa", **AB), 2)
        self.assertEqual(by_cuts(("repeated", ("scaled", 2, A)), "aaa", **AB), 8)
        self.assertEqual(by_cuts(("repeated", ("added", A, ("followed", A, A))), "aaaa", **AB), 5)
        self.assertEqual(by_cuts(("repeated", ("added", A, ("one",))), "b", **AB), 0)
        self.assertEqual(by_cuts(("repeated", ("added", A, ("one",))), "a", **AB), "endless")
        self.assertEqual(by_cuts(("left", "a", ("left", "b", ("followed", B, A))), **AB), 1)
        eight = {"ring": ring_of(("rest", 8)), "alphabet": "ab"}
        self.assertEqual(by_cuts(("repeated", ("added", ("scaled", 2, ("one",)), ("scaled", 3, A))), "a", **eight),
                         7 * 3 * 7 % 8)

    def test_long_words(self):
        either = ("repeated", ("added", A, B))
        self.assertEqual(by_cuts(("followed", either, either), "ab" * 30, **AB), 61)
        self.assertEqual(by_cuts(("turned", ("repeated", ("followed", A, B))), "ba" * 30, **AB), 1)
        self.assertEqual(by_cuts(("repeated", ("added", A, ("followed", A, A))), "a" * 60, **AB), 2504730781961)
        nested = A
        for _ in range(20):
            nested = ("repeated", ("followed", nested, ("added", A, B)))
        self.assertEqual(by_cuts(nested, "ab" * 30, **AB), weight(placed(nested, **AB), "ab" * 30, **AB))
        self.assertEqual(refusal(by_cuts, A, "a" * 61, **AB)[0], "BadWord")

    def test_long_words_dealt(self):
        stars = ("shuffled", ("repeated", A), ("repeated", B))
        self.assertEqual(by_cuts(stars, "ab" * 30, **AB), 1)
        both = ("repeated", ("added", A, B))
        self.assertEqual(by_cuts(("shuffled", both, both), "ab" * 30, **AB), 2 ** 60)
        self.assertEqual(by_cuts(("shuffled", both, ("followed", A, B)), "a" * 9 + "b" * 9, **AB), 81)
        for many in (7, 8, 9, 10):
            self.assertEqual(by_cuts(("followed", ("shuffled", both, both), B), "a" * many + "b", **AB), 2 ** many)

    def test_more_than_four_met_and_shuffled(self):
        both = ("repeated", ("added", A, ("scaled", 2, B)))
        mets, deals = both, ("one",)
        for _ in range(30):
            mets = ("met", mets, both)
        for _ in range(7):
            deals = ("shuffled", deals, A)
        for call in (by_cuts, by_rests):
            self.assertEqual(call(mets, "abb", **AB), 2 ** 62)
            self.assertEqual(call(deals, "a" * 7, **AB), 5040)
            self.assertEqual(call(deals, "a" * 6, **AB), 0)

    def test_large_and_deep_ones(self):
        numbers = Numbers(65)
        for parts in (299, 300):
            expression = plain_expression(numbers, ("rest", 6), "ab", parts, weights=[0, 1, 3, 4, 5])
            more = {"ring": ring_of(("rest", 6)), "alphabet": "ab"}
            if not lacks_star(more["ring"], expression):
                for word in ("", "ab", "abba" * 4):
                    self.assertEqual(by_cuts(expression, word, **more), by_rests(expression, word, **more))
        chain = A
        for turn in range(99):
            chain = ("followed", chain, ("repeated", B)) if turn % 2 else ("added", ("scaled", 2, chain), ("one",))
        self.assertEqual(by_cuts(chain, "a", **AB), 2 ** 50)
        self.assertEqual(by_rests(chain, "a", **AB), 2 ** 50)


class RefusalsTest(unittest.TestCase):
    def test_no_words(self):
        for call in (by_cuts, by_rests):
            for thing in [None, 1, "c", "aC", " ", b"a", ["a"], ("a",), Stranger(), "a\n", {"a"}, True, "a" * 61]:
                self.assertEqual(refusal(call, A, thing, **AB)[0], "BadWord", thing)
                self.assertEqual(refusal(call, None, thing, **AB)[0], "BadExpression", thing)

    def test_no_star(self):
        found = 0
        for made in MADE:
            more = {"ring": ring_of(made), "alphabet": "ab"}
            for expression in stars_that_lack(made):
                found += 1
                for call, rest_of in CALLS[1:]:
                    # A word that is none is looked at behind the star.
                    self.assertEqual(refusal(call, expression, *rest_of, **more)[0], "NoStar", (call, expression))
                    if call != placed:
                        for whole in [("met", ("zero",), expression), ("turned", expression), ("left", "a", expression),
                                      ("shuffled", ("turned", expression), A), ("left", "b", ("met", A, expression))]:
                            self.assertEqual(refusal(call, whole, *rest_of, **more)[0], "NoStar", (call, whole))
        self.assertGreater(found, 40)

    def test_no_star_of_what_is_not_plain(self):
        more = {"ring": ring_of(("rest", 5)), "alphabet": "ab"}
        # What is left of 2 times the letter a weighs 2 at the empty word; so does what is met, shuffled or turned.
        two = ("scaled", 2, ("one",))
        for within in [("left", "a", ("scaled", 2, A)), ("met", two, ("one",)), ("shuffled", ("one",), two),
                       ("turned", two), ("left", "a", ("left", "b", ("followed", B, ("scaled", 2, A))))]:
            for whole in [("repeated", within), ("followed", ("zero",), ("repeated", ("added", A, within)))]:
                for call, rest_of in CALLS[1:]:
                    wanted = "BadExpression" if call == placed else "NoStar"
                    self.assertEqual(refusal(call, whole, *rest_of, **more)[0], wanted, (call, whole))
            good = ("repeated", ("scaled", 0, within))
            self.assertEqual(by_cuts(good, **more), 1)
            self.assertEqual(weight(automaton_of(good, **more), **more), 1)

    def test_no_star_beside_another_refusal(self):
        more = {"ring": ring_of(("rest", 5)), "alphabet": "ab"}
        bad = ("repeated", ("scaled", 2, ("one",)))
        for call, rest_of in CALLS[1:]:
            self.assertEqual(refusal(call, ("added", bad, ("letter", "c")), *rest_of, **more)[0], "BadExpression")
            self.assertEqual(refusal(call, bad, *rest_of, ring=more["ring"], alphabet="ba")[0], "BadWord")


if __name__ == "__main__":
    unittest.main()
