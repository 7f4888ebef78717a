"""What an automaton is, the weights that it gives, its vectors and paths, still and trim."""

import unittest

from semirail.automata import need_automaton, paths, still, trim, vector, weight
from semirail.ringof import ring_of
from tests.automata import (KINDS, good_automaton, listed_weight, random_automaton, samples, table_vector,
                            table_weight, words_up_to)
from tests.samples import MADE, ODD, Numbers, Stranger, closed, refusal, weights_of

COUNT, LEAST, REST = ring_of(("count",)), ring_of(("least",)), ring_of(("rest", 6))
AB = {"ring": COUNT, "alphabet": "ab"}
NONE = (0, (), (), ())
# Of two states: "a" leads on and round, "b" back, and a silent step on.
SOME = (2, (1, 0), (0, 2), ((0, "", 1, 1), (0, "a", 0, 3), (0, "a", 1, 2), (1, "b", 0, 1)))
CALLS = [need_automaton, weight, vector, paths, still, trim]

NO_AUTOMATA = [
    None, (), [], "automaton", 4, (0,), (0, (), ()), (0, (), (), (), ()), [0, (), (), ()], (0, [], (), ()),
    (0, (), [], ()), (0, (), (), []), (0, (), (), None), (0, None, (), ()), (0, (), None, ()), (None, (), (), ()),
    (False, (), (), ()), ("", (), (), ()), (-1, (), (), ()), (True, (1,), (1,), ()), ((), (), (), ()),
    (1, (), (1,), ()), (1, (1,), (), ()), (1, (1, 1), (1,), ()), (1, (1,), (1, 1), ()), (2, (1,), (1,), ()),
    (1, (-1,), (1,), ()), (1, (1,), (-1,), ()), (1, (True,), (1,), ()), (1, (1,), (False,), ()), (1, (None,), (1,), ()),
    (1, ("1",), (1,), ()), (1, ((1,),), (1,), ()), (1, ("none",), (1,), ()), (1, [1], (1,), ()), (1, (1,), [1], ()),
    (1, (1,), (1,), [(0, "a", 0, 1)]), (1, (1,), (1,), (0, "a", 0, 1)), (1, (1,), (1,), ([0, "a", 0, 1],)),
    (1, (1,), (1,), ((0, "a", 0),)), (1, (1,), (1,), ((0, "a", 0, 1, 1),)), (1, (1,), (1,), ((0, "c", 0, 1),)),
    (1, (1,), (1,), ((0, "A", 0, 1),)), (1, (1,), (1,), ((0, "ab", 0, 1),)), (1, (1,), (1,), ((0, "aa", 0, 1),)),
    (1, (1,), (1,), ((0, None, 0, 1),)), (1, (1,), (1,), ((0, 0, 0, 1),)), (1, (1,), (1,), ((0, b"a", 0, 1),)),
    (1, (1,), (1,), ((0, ("a",), 0, 1),)), (1, (1,), (1,), ((0, " ", 0, 1),)), (1, (1,), (1,), ((0, "-", 0, 1),)),
    (1, (1,), (1,), ((1, "a", 0, 1),)), (1, (1,), (1,), ((0, "a", 1, 1),)), (1, (1,), (1,), ((-1, "a", 0, 1),)),
    (1, (1,), (1,), ((0, "a", -1, 1),)), (1, (1,), (1,), ((False, "a", 0, 1),)), (1, (1,), (1,), ((0, "a", False, 1),)),
    (1, (1,), (1,), ((0, "a", 0, True),)), (1, (1,), (1,), ((0, "a", 0, -1),)), (1, (1,), (1,), ((0, "a", 0, "none"),)),
    (1, (1,), (1,), ((0, "a", 0, None),)), (1, (1,), (1,), ((0, "a", 0, 1), (0, "a", 0, 1))),
    (1, (1,), (1,), ((0, "a", 0, 1), (0, "a", 0, 2))), (1, (1,), (1,), ((0, "b", 0, 1), (0, "a", 0, 1))),
    (1, (1,), (1,), ((0, "a", 0, 1), (0, "", 0, 1))), (2, (1, 1), (1, 1), ((1, "a", 0, 1), (0, "a", 0, 1))),
    (2, (1, 1), (1, 1), ((0, "a", 1, 1), (0, "a", 0, 1))), (0, (), (), ((0, "a", 0, 1),)), (0, (), (), ((),)),
    (2, (1, 1), (1, 1), ((0, "b", 0, 1), (0, "a", 1, 1))), (1, (1,), (1,), (None,)), (1, (1,), (1,), "a"),
]


class NeedAutomatonTest(unittest.TestCase):
    def test_good_ones(self):
        numbers = Numbers(31)
        for made in MADE:
            ring = ring_of(made)
            for automaton in samples(numbers, made, "adz", 6):
                self.assertIsNone(need_automaton(automaton, ring=ring, alphabet="adz"))
                self.assertIsNone(need_automaton(thing=automaton, alphabet="adz", ring=ring))
            every = tuple(weights_of(made))
            steps = tuple((state, "f", 0, worth) for state, worth in enumerate(every))
            self.assertIsNone(need_automaton((len(every), every, every, steps), ring=ring, alphabet="abcdef"))
        self.assertIsNone(need_automaton((400, (1,) * 400, (0,) * 400, ()), **AB))

    def test_one_part_otherwise(self):
        for thing in NO_AUTOMATA + ODD:
            for call in CALLS:
                self.assertEqual(refusal(call, thing, **AB)[0], "BadAutomaton", thing)

    def test_silent_steps_in_closed_rings_alone(self):
        for made in MADE:
            ring = ring_of(made)
            one = ring.one()
            automaton = (1, (one,), (one,), ((0, "", 0, one),))
            told = refusal(need_automaton, automaton, ring=ring, alphabet="a")
            self.assertEqual(told[0], None if closed(made) else "BadAutomaton")
            self.assertIsNone(need_automaton((1, (one,), (one,), ((0, "a", 0, one),)), ring=ring, alphabet="a"))

    def test_weights_of_other_rings(self):
        for made, worth in [(("truth",), 1), (("count",), True), (("rest", 6), 6), (("share",), (2, 4)),
                            (("lot", 3), 8), (("terms", 1), (((0,), 0),)), (("least",), (1,)), (("narrow",), -1)]:
            ring = ring_of(made)
            zero = ring.zero()
            for automaton in [(1, (worth,), (zero,), ()), (1, (zero,), (worth,), ()),
                              (1, (zero,), (zero,), ((0, "a", 0, worth),))]:
                self.assertEqual(refusal(need_automaton, automaton, ring=ring, alphabet="a")[0], "BadAutomaton")

    def test_rings_and_alphabets_go_ahead(self):
        for call in CALLS:
            for thing in ODD + [("count",)]:
                for alphabet in ("ab", None):
                    self.assertEqual(refusal(call, None, ring=thing, alphabet=alphabet), ("BadRing", ("ring",)))
            for thing in [None, "", "ba", "aa", "aB", "abcdefg", ["a"], ("a",), 1, b"ab", "a b", Stranger(), {"a"}]:
                self.assertEqual(refusal(call, None, ring=COUNT, alphabet=thing)[0], "BadWord", thing)
                self.assertEqual(refusal(call, NONE, ring=REST, alphabet=thing)[0], "BadWord", thing)


class WeightTest(unittest.TestCase):
    def test_by_all_paths(self):
        numbers = Numbers(32)
        for made in MADE:
            ring = ring_of(made)
            for _ in range(4):
                automaton = random_automaton(numbers, made, "ab", 1 + numbers.below(3), numbers.below(8))
                for word in words_up_to("ab", 4):
                    told = weight(automaton, word, ring=ring, alphabet="ab")
                    self.assertEqual(repr(told), repr(listed_weight(ring, automaton, word)), (made, automaton, word))

    def test_silent_steps(self):
        numbers = Numbers(33)
        for made in MADE:
            if closed(made):
                ring = ring_of(made)
                for turn in range(8):
                    automaton = random_automaton(numbers, made, "ab", 1 + numbers.below(6), 3 + 2 * turn, silent=True)
                    for word in words_up_to("ab", 3):
                        told = vector(automaton, word, ring=ring, alphabet="ab")
                        self.assertEqual(repr(told), repr(table_vector(ring, automaton, word)), (automaton, word))
                        self.assertEqual(repr(weight(automaton, word, ring=ring, alphabet="ab")),
                                         repr(table_weight(ring, automaton, word)))

    def test_by_hand(self):
        self.assertEqual(weight(SOME, **AB), 2)
        self.assertEqual(weight(SOME, "a", **AB), 10)
        self.assertEqual(weight(SOME, "aba", **AB), 5 * 5 * 2)
        self.assertEqual(weight(SOME, "bb", **AB), 2)
        self.assertEqual(weight(word="ab", automaton=SOME, alphabet="ab", ring=COUNT), 10)
        self.assertEqual(vector(SOME, **AB), [1, 1])
        self.assertEqual(vector(SOME, "a", **AB), [3, 5])
        self.assertEqual(vector(word="ab", automaton=SOME, alphabet="ab", ring=COUNT), [5, 5])

    def test_rounds_of_silent_steps(self):
        once = (1, (1,), (1,), ((0, "", 0, 1),))
        self.assertEqual(weight(once, **AB), "endless")
        self.assertEqual(weight((1, (0,), (1,), ((0, "", 0, 1),)), **AB), 0)
        self.assertEqual(weight((1, (1,), (0,), ((0, "", 0, 1),)), **AB), 0)
        self.assertEqual(weight((1, (1,), (1,), ((0, "", 0, 0),)), **AB), 1)
        falling = (2, (0, "none"), (0, 5), ((0, "", 0, -1), (0, "a", 1, 2)))
        self.assertEqual(weight(falling, "a", ring=LEAST, alphabet="ab"), "endless")
        self.assertEqual(weight(falling, "b", ring=LEAST, alphabet="ab"), "none")
        rising = (2, (0, "none"), (0, 5), ((0, "", 0, 1), (0, "a", 1, 2)))
        self.assertEqual(weight(rising, "a", ring=LEAST, alphabet="ab"), 7)
        # A round that begins and ends beside the only way.
        beside = (3, (1, 0, 0), (0, 1, 0), ((0, "", 1, 4), (2, "", 1, 1), (2, "", 2, 1)))
        self.assertEqual(weight(beside, **AB), 4)
        self.assertEqual(vector(beside, **AB), [1, 4, 0])

    def test_long_words(self):
        doubling = (1, (1,), (1,), ((0, "a", 0, 2), (0, "b", 0, 1)))
        self.assertEqual(weight(doubling, "a" * 60, **AB), 2 ** 60)
        self.assertEqual(weight(doubling, "ab" * 30, **AB), 2 ** 30)
        for call in (weight, vector, paths):
            self.assertEqual(refusal(call, doubling, "a" * 61, **AB)[0], "BadWord")
        fib = (2, (1, 0), (1, 0), ((0, "a", 0, 1), (0, "a", 1, 1), (1, "a", 0, 1)))
        self.assertEqual(weight(fib, "a" * 59, **AB), 1548008755920)
        self.assertEqual(weight(fib, "a" * 59, ring=ring_of(("rest", 1000)), alphabet="ab"), 920)

    def test_many_states(self):
        ring = ring_of(("least",))
        chain = tuple((k, "" if k % 2 else "a", k + 1, k) for k in range(399))
        automaton = (400, (0,) + ("none",) * 399, ("none",) * 399 + (0,), chain)
        self.assertEqual(weight(automaton, "a" * 60, ring=ring, alphabet="a"), "none")
        self.assertEqual(vector(automaton, "a" * 60, ring=ring, alphabet="a")[119:122],
                         [sum(range(119)), sum(range(120)), "none"])
        back = tuple((k + 1, "", k, 1) for k in range(399))
        automaton = (400, ("none",) * 399 + (0,), (0,) + ("none",) * 399, ((0, "", 399, -399),) + back)
        self.assertEqual(weight(automaton, ring=ring, alphabet="a"), 399)
        automaton = (400, ("none",) * 399 + (0,), (0,) + ("none",) * 399, ((0, "", 399, -400),) + back)
        self.assertEqual(weight(automaton, ring=ring, alphabet="a"), "endless")

    def test_no_states(self):
        for made in MADE:
            ring = ring_of(made)
            for word in ("", "a", "b" * 60):
                self.assertEqual(weight(NONE, word, ring=ring, alphabet="ab"), ring.zero())
                self.assertEqual(vector(NONE, word, ring=ring, alphabet="ab"), [])

    def test_no_words(self):
        for call in (weight, vector, paths):
            for thing in [None, 1, "c", "aC", " ", b"a", ["a"], ("a",), Stranger(), "a\n", {"a"}, True]:
                self.assertEqual(refusal(call, NONE, thing, **AB)[0], "BadWord", thing)
                self.assertEqual(refusal(call, None, thing, **AB)[0], "BadAutomaton", thing)

    def test_the_told_vector_is_the_askers_own(self):
        automaton = (1, (4,), (1,), ())
        row = vector(automaton, **AB)
        row[0] = 9
        self.assertEqual(vector(automaton, **AB), [4])


class PathsTest(unittest.TestCase):
    LOUD = (3, (0, 0, 0), (0, 0, 0), ((0, "a", 1, 0), (0, "a", 2, 1), (0, "b", 0, 0), (1, "a", 2, 5), (2, "a", 0, 1)))

    def test_by_hand(self):
        self.assertEqual(paths(self.LOUD, **AB), [(0,), (1,), (2,)])
        self.assertEqual(paths(self.LOUD, "a", **AB), [(0,), (1,), (3,), (4,)])
        self.assertEqual(paths(self.LOUD, "aa", **AB), [(0, 3), (1, 4), (3, 4), (4, 0), (4, 1)])
        self.assertEqual(paths(self.LOUD, "ab", **AB), [(4, 2)])
        self.assertEqual(paths(self.LOUD, "aab", **AB), [(1, 4, 2), (3, 4, 2)])
        self.assertEqual(paths(NONE, **AB), [])
        self.assertEqual(paths(NONE, "ab", **AB), [])
        self.assertEqual(paths(most=5, word="aa", automaton=self.LOUD, alphabet="ab", ring=COUNT)[4], (4, 1))

    def test_by_all_rows(self):
        numbers = Numbers(34)
        for made in KINDS:
            ring = ring_of(made)
            for _ in range(8):
                automaton = random_automaton(numbers, made, "ab", 1 + numbers.below(4), numbers.below(10))
                steps = automaton[3]
                rows = [()]
                for word in ["", "a", "ab", "abb", "abba"]:
                    if word:
                        rows = [row + (number,) for row in rows for number, step in enumerate(steps)
                                if step[1] == word[-1] and (not row or steps[row[-1]][2] == step[0])]
                    wanted = rows if word else [(state,) for state in range(automaton[0])]
                    told = paths(automaton, word, ring=ring, alphabet="ab", most=10 ** 6)
                    self.assertEqual(told, sorted(wanted))
                    self.assertIs(type(told), list)
                    self.assertEqual(told, paths(automaton, word, ring=ring, alphabet="ab", most=len(told)))
                    if told:
                        self.assertEqual(refusal(paths, automaton, word, ring=ring, alphabet="ab", most=len(told) - 1),
                                         ("TooMany", (len(told) - 1,)))

    def test_most(self):
        wide = (2, (1, 0), (1, 0), ((0, "a", 0, 1), (0, "a", 1, 1), (1, "a", 0, 1), (1, "a", 1, 1)))
        self.assertEqual(len(paths(wide, "a" * 7, **AB)), 256)
        self.assertEqual(refusal(paths, wide, "a" * 8, **AB), ("TooMany", (300,)))
        self.assertEqual(refusal(paths, wide, "a" * 60, **AB, most=10 ** 6), ("TooMany", (10 ** 6,)))
        self.assertEqual(refusal(paths, wide, **AB, most=1), ("TooMany", (1,)))
        self.assertEqual(len(paths(wide, "", **AB, most=2)), 2)
        self.assertEqual(paths(wide, "b", **AB, most=0), [])
        many = (301, (0,) * 301, (0,) * 301, ())
        self.assertEqual(refusal(paths, many, **AB), ("TooMany", (300,)))
        self.assertEqual(len(paths((300, (0,) * 300, (0,) * 300, ()), **AB)), 300)

    def test_rows_that_come_to_nothing_are_not_followed(self):
        # Of each of sixty letters two steps go on, but none makes the last one but for one row.
        ends = ((0, "a", 0, 1), (0, "a", 1, 1), (1, "a", 0, 1), (1, "a", 1, 1))
        automaton = (4, (1,) * 4, (1,) * 4, ends + ((2, "a", 2, 1), (2, "b", 3, 1)))
        self.assertEqual(paths(automaton, "a" * 59 + "b", **AB), [(4,) * 59 + (5,)])
        self.assertEqual(refusal(paths, automaton, "a" * 59 + "b", **AB, most=0), ("TooMany", (0,)))

    def test_order_of_refusals(self):
        silent = (1, (1,), (1,), ((0, "", 0, 0),))
        self.assertEqual(refusal(paths, silent, "a", **AB)[0], "BadAutomaton")
        self.assertEqual(refusal(paths, silent, None, **AB, most=None)[0], "BadAutomaton")
        self.assertEqual(refusal(paths, self.LOUD, "c", **AB, most=None)[0], "BadWord")
        for most in [-1, 10 ** 6 + 1, True, False, None, "3", (3,), [3], Stranger(), 10 ** 30]:
            self.assertEqual(refusal(paths, self.LOUD, "aaaa", **AB, most=most)[0], "BadNumber", most)

    def test_the_told_list_is_the_askers_own(self):
        told = paths(self.LOUD, "ab", **AB)
        told.append(3)
        self.assertEqual(paths(self.LOUD, "ab", **AB), [(4, 2)])


class StillAndTrimTest(unittest.TestCase):
    def test_still(self):
        numbers = Numbers(35)
        for made in MADE:
            ring = ring_of(made)
            for automaton in samples(numbers, made, "ab", 8, states=6, steps=14):
                told = still(automaton, ring=ring, alphabet="ab")
                self.assertTrue(good_automaton(ring, "ab", told))
                self.assertFalse(any(step[1] == "" for step in told[3]))
                for word in words_up_to("ab", 3):
                    self.assertEqual(repr(weight(told, word, ring=ring, alphabet="ab")),
                                     repr(table_weight(ring, automaton, word)), (made, automaton))
        self.assertEqual(still(automaton=NONE, alphabet="ab", ring=COUNT), NONE)

    def test_trim_is_as_told(self):
        numbers = Numbers(36)
        for made in KINDS:
            ring = ring_of(made)
            weights = [ring.zero(), ring.zero()] + weights_of(made)
            for turn in range(40):
                automaton = random_automaton(numbers, made, "ab", 1 + numbers.below(7), numbers.below(9),
                                             silent=turn % 3 == 0, weights=weights)
                told = trim(automaton, ring=ring, alphabet="ab")
                self.assertEqual(repr(told), repr(trimmed(ring, automaton)), (made, automaton))
                self.assertTrue(good_automaton(ring, "ab", told))
                for word in words_up_to("ab", 2):
                    self.assertEqual(weight(told, word, ring=ring, alphabet="ab"),
                                     table_weight(ring, automaton, word))

    def test_trim_by_hand(self):
        self.assertEqual(trim(automaton=NONE, alphabet="ab", ring=COUNT), NONE)
        self.assertEqual(trim((1, (1,), (1,), ()), **AB), (1, (1,), (1,), ()))
        self.assertEqual(trim((1, (1,), (0,), ((0, "a", 0, 1),)), **AB), NONE)
        self.assertEqual(trim((1, (0,), (1,), ((0, "a", 0, 1),)), **AB), NONE)
        # A step of zero leads nowhere, but stays between states that stay.
        self.assertEqual(trim((2, (1, 0), (0, 1), ((0, "a", 1, 0),)), **AB), NONE)
        zeros = (2, (1, 0), (0, 1), ((0, "a", 1, 0), (0, "b", 1, 2), (1, "", 0, 0)))
        self.assertEqual(trim(zeros, **AB), zeros)
        # State 1 is a dead end, state 2 has no way to it; the others stay in their order.
        lone = (5, (0, 0, 0, 1, 0), (1, 0, 1, 0, 0), ((0, "a", 4, 1), (2, "a", 0, 1), (3, "a", 1, 1), (3, "b", 0, 7),
                                                      (3, "b", 3, 1)))
        self.assertEqual(trim(lone, **AB), (2, (0, 1), (1, 0), ((1, "b", 0, 7), (1, "b", 1, 1))))
        # In rest 6 the weights of a row may come to zero though none of its steps is.
        two = (3, (1, 0, 0), (0, 0, 1), ((0, "a", 1, 2), (1, "a", 2, 3)))
        self.assertEqual(trim(two, ring=REST, alphabet="ab"), two)

    def test_a_row_beside_a_start_that_is_an_end(self):
        chain = tuple((k, "a", k + 1, 1) for k in range(399))
        automaton = (400, (1,) + (0,) * 399, (0,) * 399 + (1,), chain)
        self.assertEqual(trim(automaton, **AB), automaton)
        self.assertEqual(trim((400, automaton[1], (1,) + (0,) * 399, chain), **AB), (1, (1,), (1,), ()))


def trimmed(ring, automaton):
    """TRIM by point 11, by ever longer rows of steps."""
    states, starts, ends, steps = automaton
    after = {state for state in range(states) if starts[state] != ring.zero()}
    before = {state for state in range(states) if ends[state] != ring.zero()}
    for _ in range(states):
        after |= {j for i, _, j, worth in steps if i in after and worth != ring.zero()}
        before |= {i for i, _, j, worth in steps if j in before and worth != ring.zero()}
    kept = sorted(after & before)
    return (len(kept), tuple(starts[state] for state in kept), tuple(ends[state] for state in kept),
            tuple((kept.index(i), letter, kept.index(j), worth) for i, letter, j, worth in steps
                  if i in kept and j in kept))


if __name__ == "__main__":
    unittest.main()
