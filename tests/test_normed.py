"""Automata of the least ring by their normed vectors."""

import unittest

from semirail.automata import vector, weight
from semirail.normed import normed
from semirail.ringof import ring_of
from tests.automata import good_automaton, random_automaton, words_up_to
from tests.samples import ODD, Numbers, Stranger, refusal
from tests.test_automata import NONE

LEAST = ring_of(("least",))
MORE = {"ring": LEAST, "alphabet": "ab"}
WEIGHTS = ["none", "none", 0, 1, 2, -1, -5, 7]
# Two ways for an "a" that go ever further from each other.
APART = (2, (0, 0), (0, 0), ((0, "a", 0, 1), (1, "a", 1, 2)))


def normed_row(row):
    """A vector and its norm, both None of one that is all "none"."""
    found = [worth for worth in row if worth != "none"]
    if not found:
        return None, None
    return tuple(worth if worth == "none" else worth - min(found) for worth in row), min(found)


def by_words(automaton, alphabet, long):
    """The normed vectors of the words of so many letters, in the order of the first ones."""
    told = []
    for word in words_up_to(alphabet, long):
        row, _ = normed_row(vector(automaton, word, ring=LEAST, alphabet=alphabet))
        if row is not None and row not in told:
            told.append(row)
    return told


class NormedTest(unittest.TestCase):
    def test_by_vectors(self):
        numbers = Numbers(111)
        found = 0
        for turn in range(150):
            automaton = random_automaton(numbers, ("least",), "ab", 1 + numbers.below(3), numbers.below(7), weights=WEIGHTS)
            what, told = refusal(normed, automaton, alphabet="ab", most=7)
            rows = by_words(automaton, "ab", 7)
            if what == "TooMany":
                self.assertEqual(told, (7,))
                self.assertGreater(len(rows), 7)
                continue
            found += 1
            self.assertTrue(good_automaton(LEAST, "ab", told), told)
            self.assertEqual(told[0], len(rows))
            self.assertEqual(told, normed(automaton, alphabet="ab", most=len(rows)))
            if rows:
                self.assertEqual(refusal(normed, automaton, alphabet="ab", most=len(rows) - 1),
                                 ("TooMany", (len(rows) - 1,)))
            self.assertEqual(told[1], tuple(normed_row(automaton[1])[1] if at == 0 else "none" for at in range(len(rows))))
            self.check_steps(automaton, rows, told)
            for word in words_up_to("ab", 5):
                self.assertEqual(weight(told, word, **MORE), weight(automaton, word, **MORE), (automaton, word))
        self.assertGreater(found, 60)

    def check_steps(self, automaton, rows, told):
        """Each state's end, and its one step by each letter, by its vector."""
        wanted = []
        for at, row in enumerate(rows):
            begun = (automaton[0], row, automaton[2], automaton[3])
            self.assertEqual(told[2][at], weight(begun, "", **MORE))
            for letter in "ab":
                then, norm = normed_row(vector(begun, letter, **MORE))
                if then is not None:
                    wanted.append((at, letter, rows.index(then), norm))
        self.assertEqual(told[3], tuple(wanted))

    def test_by_hand(self):
        one = (2, (3, 5), ("none", 4), ((0, "a", 0, -1), (0, "b", 1, 2), (1, "a", 1, 0), (1, "b", 1, -7)))
        # (0, 2), then by "b" (none, 0); by "a" (0, 3), (0, 4) and so on.
        self.assertEqual(refusal(normed, one, alphabet="ab"), ("TooMany", (60,)))
        same = (2, (3, 5), ("none", 4), ((0, "a", 0, -1), (0, "b", 1, 2), (1, "a", 1, -1), (1, "b", 1, -7)))
        self.assertEqual(normed(same, alphabet="ab"), (
            2, (3, "none"), (6, 4), ((0, "a", 0, -1), (0, "b", 1, -5), (1, "a", 1, -1), (1, "b", 1, -7))))
        self.assertEqual(normed(automaton=same, alphabet="ab", most=2), normed(same, alphabet="ab"))

    def test_endlessly_many(self):
        for most in (0, 1, 59, 60, 61, 500):
            self.assertEqual(refusal(normed, APART, alphabet="a", most=most), ("TooMany", (most,)))
        self.assertEqual(refusal(normed, APART, alphabet="a"), ("TooMany", (60,)))

    def test_sixty_and_more(self):
        for states in (59, 60, 61):
            ends = ("none",) * (states - 1) + (0,)
            chain = (states, (4,) + ("none",) * (states - 1), ends, tuple((k, "a", k + 1, k) for k in range(states - 1)))
            told = refusal(normed, chain, alphabet="a")
            self.assertEqual(told, (None, chain) if states <= 60 else ("TooMany", (60,)))

    def test_no_vector_to_begin_with(self):
        for automaton in [NONE, (1, ("none",), (0,), ()), (2, ("none", "none"), (1, 2), ((0, "a", 1, 3),))]:
            self.assertEqual(normed(automaton, alphabet="ab"), (0, (), (), ()))
            self.assertEqual(normed(automaton, alphabet="ab", most=0), (0, (), (), ()))
        self.assertEqual(normed((1, (7,), ("none",), ()), alphabet="a"), (1, (7,), ("none",), ()))
        self.assertEqual(refusal(normed, (1, (7,), ("none",), ()), alphabet="a", most=0), ("TooMany", (0,)))
        # A step of "none" leads to no vector.
        self.assertEqual(normed((1, (7,), (2,), ((0, "a", 0, "none"),)), alphabet="a"), (1, (7,), (2,), ()))

    def test_endless_and_silent(self):
        for automaton in [(1, ("endless",), (0,), ()), (1, (0,), ("endless",), ()), (1, (0,), (0,), ((0, "a", 0, "endless"),)),
                          (1, (0,), (0,), ((0, "", 0, 1),)), (1, (0,), (0,), ((0, "", 0, "none"),)),
                          (1, ("none",), ("endless",), ())]:
            self.assertEqual(refusal(normed, automaton, alphabet="ab")[0], "BadAutomaton")
            self.assertEqual(refusal(normed, automaton, alphabet="ab", most=None)[0], "BadAutomaton")

    def test_refusals(self):
        for thing in ODD + [(1, (True,), (0,), ()), (1, (0,), (0,), ((0, "c", 0, 1),)), (1, (0,), (), ()), [0, (), (), ()]]:
            self.assertEqual(refusal(normed, thing, alphabet="ab", most=-1)[0], "BadAutomaton", thing)
        for thing in [None, "", "ba", "aa", "aB", "abcdefg", ["a"], ("a",), 1, b"ab", Stranger()]:
            self.assertEqual(refusal(normed, None, alphabet=thing, most=-1)[0], "BadWord", thing)
        for most in [-1, 10 ** 6 + 1, True, None, "3", (3,), Stranger()]:
            self.assertEqual(refusal(normed, APART, alphabet="ab", most=most)[0], "BadNumber", most)

    def test_nothing_is_changed(self):
        kept = repr(APART)
        refusal(normed, APART, alphabet="a")
        self.assertEqual(repr(APART), kept)


if __name__ == "__main__":
    unittest.main()
