"""The way back from automata to expressions."""

import unittest

from semirail.automata import still, trim, weight
from semirail.back import expression_of
from semirail.expressions import by_cuts, is_plain, need_expression
from semirail.operations import added, followed
from semirail.places import automaton_of
from semirail.rests import by_rests
from semirail.ringof import ring_of
from tests.automata import KINDS, random_automaton, samples, table_weight, words_up_to
from tests.expressions import lacks_star, random_expression, size
from tests.samples import MADE, ODD, Numbers, Stranger, closed, refusal, weights_of
from tests.test_automata import NO_AUTOMATA, NONE, SOME
from tests.test_expressions import AB, COUNT


class ExpressionOfTest(unittest.TestCase):
    def look(self, ring, automaton, long):
        """A plain expression of the automaton's weights, and an automaton of these again."""
        more = {"ring": ring, "alphabet": "ab"}
        told = expression_of(automaton, **more)
        self.assertIsNone(need_expression(told, **more))
        self.assertIs(is_plain(told), True)
        again = automaton_of(told, **more)
        for word in words_up_to("ab", long):
            wanted = repr(table_weight(ring, automaton, word))
            self.assertEqual(repr(by_cuts(told, word, **more)), wanted, (ring, automaton, word))
            self.assertEqual(repr(by_rests(told, word, **more)), wanted)
            self.assertEqual(repr(weight(again, word, **more)), wanted)
        self.assertEqual(told, expression_of(automaton, **more))

    def test_small_ones(self):
        numbers = Numbers(91)
        for made in MADE:
            for automaton in samples(numbers, made, "ab", 6, states=3, steps=7):
                self.look(ring_of(made), automaton, 3)

    def test_six_states_and_forty_steps(self):
        numbers = Numbers(92)
        for made in KINDS:
            ring = ring_of(made)
            weights = [weight for weight in weights_of(made) if weight != ring.zero()][:3]
            self.look(ring, random_automaton(numbers, made, "ab", 6, 12, weights=weights), 2)
            self.look(ring, random_automaton(numbers, made, "ab", 5, 20, silent=True, weights=weights), 2)
        for made in [("truth",), ("rest", 6), ("count",)]:
            ring = ring_of(made)
            weights = [weight for weight in weights_of(made) if weight != ring.zero()][:3]
            self.look(ring, random_automaton(numbers, made, "ab", 6, 70, silent=closed(made), weights=weights), 3)

    def test_rounds_of_silent_steps(self):
        for made in MADE:
            if closed(made):
                ring = ring_of(made)
                for worth in weights_of(made)[:4]:
                    one, zero = ring.one(), ring.zero()
                    steps = ((0, "", 1, worth), (0, "a", 0, one), (1, "", 0, worth), (1, "b", 2, one), (2, "", 2, worth))
                    self.look(ring, (3, (one, zero, zero), (zero, worth, one), steps), 2)

    def test_by_hand(self):
        self.assertEqual(by_cuts(expression_of(NONE, **AB), "", **AB), 0)
        self.look(COUNT, NONE, 2)
        self.look(COUNT, SOME, 4)
        self.look(COUNT, (1, (2,), (3,), ()), 2)
        self.look(COUNT, (1, (2,), (3,), ((0, "a", 0, 1), (0, "b", 0, 4))), 4)
        self.look(COUNT, (2, (0, 0), (1, 1), ((0, "a", 1, 1), (1, "b", 0, 1))), 2)
        self.look(COUNT, (2, (1, 1), (1, 1), ((0, "a", 1, 0), (1, "b", 0, 0))), 2)
        self.assertEqual(expression_of(automaton=SOME, alphabet="ab", ring=COUNT), expression_of(SOME, **AB))

    def test_small_automata_have_small_expressions(self):
        self.assertEqual(size(expression_of(NONE, **AB)), (1, 1))
        chain = (6, (1,) + (0,) * 5, (0,) * 5 + (1,), tuple((k, "a", k + 1, 1) for k in range(5)))
        self.assertLessEqual(size(expression_of(chain, **AB))[0], 9)
        turning = (6, (2,) + (0,) * 5, (0,) * 5 + (3,), tuple((k, "a", (k + 1) % 6, 1) for k in range(6)))
        self.assertLessEqual(size(expression_of(turning, **AB))[0], 40)
        idle = (3, (1, 1, 1), (1, 0, 1), ((0, "a", 1, 1), (1, "b", 1, 1), (2, "a", 1, 1)))
        self.assertLessEqual(size(expression_of(idle, **AB))[0], 5)

    def test_there_and_back_again(self):
        numbers = Numbers(93)
        for made in KINDS:
            ring = ring_of(made)
            more = {"ring": ring, "alphabet": "ab"}
            for parts in (2, 4, 6):
                expression = random_expression(numbers, made, "ab", parts)
                if not lacks_star(ring, expression):
                    automaton = automaton_of(expression, **more)
                    if automaton[0] <= 6:
                        told = expression_of(automaton, **more)
                        for word in words_up_to("ab", 3):
                            self.assertEqual(repr(by_cuts(told, word, **more)), repr(by_cuts(expression, word, **more)))
                        self.look(ring, automaton_of(told, **more), 2)

    def test_of_what_operations_tell(self):
        numbers = Numbers(94)
        for made in KINDS:
            more = {"ring": ring_of(made), "alphabet": "ab"}
            one, other = (random_automaton(numbers, made, "ab", 2, 3, silent=True) for _ in range(2))
            for told in (added(one, other, **more), followed(one, other, **more), still(one, **more), trim(one, **more)):
                self.look(more["ring"], told, 2)

    def test_refusals(self):
        for thing in NO_AUTOMATA + ODD:
            self.assertEqual(refusal(expression_of, thing, **AB)[0], "BadAutomaton", thing)
        for thing in [None, ("count",), "count", 3, Stranger()]:
            self.assertEqual(refusal(expression_of, None, ring=thing, alphabet="ba"), ("BadRing", ("ring",)))
        for thing in [None, "", "ba", "aa", "Ab", "abcdefg", ("a",), 3]:
            self.assertEqual(refusal(expression_of, None, ring=COUNT, alphabet=thing)[0], "BadWord")
        silent = (1, (1,), (1,), ((0, "", 0, 1),))
        self.assertEqual(refusal(expression_of, silent, ring=ring_of(("rest", 6)), alphabet="ab")[0], "BadAutomaton")


if __name__ == "__main__":
    unittest.main()
