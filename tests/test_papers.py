"""What shows that machines are alike, which word parts them, and what shows that one is the least."""

import unittest

from semirail.machines import Machine
from semirail.papers import alike_paper, apart, check_alike, check_least, parted
from semirail.ringof import ring_of
from tests.machines import first_words, led_to, parting, random_machine
from tests.samples import MADE, ODD, Numbers, Stranger, refusal, weights_of

TRUTH, REST = ring_of(("truth",)), ring_of(("rest", 6))
ONE = Machine(TRUTH, "ab", (False, False, True), ((1, 0), (1, 2), (1, 2)))
# The same with a state that stands for another one, too.
MORE = Machine(TRUTH, "ab", (False, False, True, False), ((1, 0), (3, 2), (1, 2), (1, 2)))
OTHER = Machine(TRUTH, "ab", (False, False, True), ((1, 0), (1, 2), (2, 2)))
FEWER = [Machine(REST, "ab", (0,), ((0, 0),)), Machine(TRUTH, "abc", (False,), ((0, 0, 0),)),
         Machine(TRUTH, "bc", (False,), ((0, 0),)), Machine(TRUTH, "a", (False,), ((0,),))]


def copies(numbers, machine, states):
    """A machine that gives the same, in which some states stand more than once, in another order."""
    stands = [0] + [numbers.below(len(machine)) for _ in range(states)] + list(range(len(machine)))
    places = {}
    for place, state in enumerate(stands):
        places.setdefault(state, []).append(place)
    moves = tuple(tuple(numbers.one_of(places[then]) for then in machine.moves()[state]) for state in stands)
    return Machine(machine.ring(), machine.alphabet(), tuple(machine.ends()[state] for state in stands), moves)


class PartedTest(unittest.TestCase):
    def test_by_all_words(self):
        numbers = Numbers(101)
        found = set()
        for made in MADE:
            for turn in range(8):
                alphabet = ("a", "ab", "xyz")[turn % 3]
                one = random_machine(numbers, made, alphabet, 1 + numbers.below(5), weights_of(made)[:2])
                other = random_machine(numbers, made, alphabet, 1 + numbers.below(4), weights_of(made)[:2])
                if turn > 3:
                    other = copies(numbers, one, numbers.below(3))
                wanted = parting(one, 0, other, 0, len(one) + len(other))
                self.assertEqual(parted(one, other), wanted)
                self.assertEqual(parted(other, one), wanted)
                told = alike_paper(one, other)
                self.assertEqual(told is None, wanted is not None)
                if told is not None:
                    self.assertTrue(check_alike(one, other, told))
                    self.assertTrue(check_alike(other, one, [(j, i) for i, j in told]))
                found.add(wanted if wanted is None else len(wanted))
        self.assertLessEqual({None, 0, 1, 2}, found)

    def test_by_hand(self):
        self.assertIsNone(parted(ONE, MORE))
        self.assertEqual(parted(ONE, OTHER), "aba")
        self.assertEqual(parted(other=ONE, one=OTHER), "aba")
        self.assertIsNone(alike_paper(ONE, OTHER))
        self.assertEqual(alike_paper(other=MORE, one=ONE)[0], (0, 0))
        self.assertEqual(sorted(alike_paper(ONE, MORE)), [(0, 0), (1, 1), (1, 3), (2, 2)])

    def test_long_words(self):
        # Rounds of 89 and 97 letters: ends that are unlike at one place of each.
        one = Machine(TRUTH, "a", (True,) * 88 + (False,), tuple(((k + 1) % 89,) for k in range(89)))
        other = Machine(TRUTH, "a", (True,) * 88 + (False,) + (True,) * 8, tuple(((k + 1) % 97,) for k in range(97)))
        self.assertEqual(parted(one, other), "a" * 177)
        same = Machine(TRUTH, "a", (True,) * 97, tuple(((k + 1) % 97,) for k in range(97)))
        self.assertEqual(len(alike_paper(same, Machine(TRUTH, "a", (True,) * 89, one.moves()))), 89 * 97)

    def test_refusals(self):
        for thing in ODD + FEWER + [(ONE.ends(), ONE.moves()), str(ONE)]:
            for call, more in [(parted, ()), (alike_paper, ()), (check_alike, ([(0, 0)],)), (check_alike, (None,))]:
                self.assertEqual(refusal(call, ONE, thing, *more)[0], "BadMachine", thing)
                self.assertEqual(refusal(call, thing, ONE, *more)[0], "BadMachine", thing)


class CheckAlikeTest(unittest.TestCase):
    def test_papers_otherwise(self):
        paper = alike_paper(ONE, MORE)
        self.assertTrue(check_alike(ONE, MORE, paper))
        self.assertTrue(check_alike(paper=paper, other=MORE, one=ONE))
        for place, pair in enumerate(paper):
            self.assertFalse(check_alike(ONE, MORE, paper[:place] + paper[place + 1:]))
            self.assertFalse(check_alike(ONE, MORE, paper + [pair]))
            self.assertFalse(check_alike(ONE, MORE, paper[:place] + [pair] + paper[place:]))
            for thing in [None, list(pair), pair + (0,), pair[:1], (pair[0], None), (pair[0], "0"), (pair[0], -1),
                          (pair[0], 4), (3, pair[1]), (pair[0], [0]), (bool(pair[0]), pair[1]), "00", 0, Stranger(),
                          (pair[0], bool(pair[1])), (pair[0], Stranger()), {pair: pair}, ()]:
                self.assertFalse(check_alike(ONE, MORE, paper[:place] + [thing] + paper[place + 1:]), thing)
        self.assertFalse(check_alike(ONE, MORE, [(j, i) for i, j in paper]))
        self.assertFalse(check_alike(ONE, MORE, paper[1:] + paper[:1]))
        self.assertTrue(check_alike(ONE, MORE, paper[:1] + paper[:0:-1]))
        for thing in [tuple(paper), {pair: True for pair in paper}, iter(paper), set(paper), [], [[0, 0]], None, "", 0,
                      [paper], [(0, 0)], Stranger()]:
            self.assertFalse(check_alike(ONE, MORE, thing), thing)
        for thing in ODD:
            self.assertFalse(check_alike(ONE, MORE, thing), thing)

    def test_unlike_machines_have_none(self):
        # All sets of pairs that begin with the first.
        one = Machine(TRUTH, "a", (False, True), ((1,), (0,)))
        other = Machine(TRUTH, "a", (False, True), ((1,), (1,)))
        for bits in range(8):
            rest = [pair for place, pair in enumerate([(0, 1), (1, 0), (1, 1)]) if bits >> place & 1]
            self.assertFalse(check_alike(one, other, [(0, 0)] + rest))

    def test_pairs_that_no_word_has(self):
        # What is asked is just that all ends are the same, and that each pair leads to pairs of the paper.
        one = Machine(TRUTH, "a", (False, True, True), ((0,), (2,), (2,)))
        self.assertTrue(check_alike(one, one, [(0, 0)]))
        self.assertTrue(check_alike(one, one, [(0, 0), (2, 2), (1, 2)]))
        self.assertFalse(check_alike(one, one, [(0, 0), (1, 2)]))
        self.assertFalse(check_alike(one, one, [(0, 0), (0, 1), (0, 2)]))
        # A number below 0 tells no state, though it would find one from behind.
        for pair in [(-1, -1), (2, -1), (-1, 2)]:
            self.assertFalse(check_alike(one, one, [(0, 0), (2, 2), pair]))

    def test_kinds_of_rings(self):
        numbers = Numbers(102)
        for made in MADE:
            one = random_machine(numbers, made, "ab", 4)
            other = copies(numbers, one, 3)
            paper = alike_paper(one, other)
            kept = repr(paper)
            self.assertTrue(all(type(pair) is tuple for pair in paper))
            self.assertTrue(check_alike(one, other, paper))
            self.assertEqual(repr(paper), kept)
            paper.append(3)
            self.assertEqual(repr(alike_paper(one, other)), kept)


class ApartTest(unittest.TestCase):
    def test_first_words_that_part(self):
        numbers = Numbers(103)
        for made in MADE:
            for alphabet in ("a", "ab", "xyz"):
                least = random_machine(numbers, made, alphabet, 1 + numbers.below(8), weights_of(made)[:2]).least()
                wanted = [(i, j, parting(least, i, least, j, len(least)))
                          for i in range(len(least)) for j in range(i + 1, len(least))]
                told = apart(least)
                self.assertEqual(told, wanted)
                self.assertIs(type(told), list)
                self.assertTrue(check_least(least, list(first_words(least).values()), told))

    def test_by_hand(self):
        self.assertEqual(apart(ONE), [(0, 1, "b"), (0, 2, ""), (1, 2, "")])
        self.assertEqual(apart(one=Machine(TRUTH, "a", (True,), ((0,),))), [])
        # The shorter word goes ahead of the one with the lesser letter.
        machine = Machine(TRUTH, "abc", (False, False, True, False), ((1, 0, 0), (0, 0, 2), (3, 2, 2), (2, 3, 3))).least()
        for i, j, word in apart(machine):
            self.assertEqual(word, parting(machine, i, machine, j, 9))
        chain = Machine(TRUTH, "a", (False,) * 299 + (True,), tuple((min(i + 1, 299),) for i in range(300)))
        told = apart(chain)
        self.assertEqual(len(told), 300 * 299 // 2)
        self.assertEqual(told[0], (0, 1, "a" * 298))
        self.assertTrue(check_least(chain, ["a" * k for k in range(300)], told))

    def test_refusals(self):
        for thing in ODD + [MORE, (ONE.ends(), ONE.moves())]:
            self.assertEqual(refusal(apart, thing)[0], "BadMachine", thing)
        # Not in the order of the first words; a state that no word leads to; two alike.
        for machine in [Machine(TRUTH, "ab", (False, True, False), ((2, 0), (2, 1), (2, 1))),
                        Machine(TRUTH, "ab", (False, True), ((0, 0), (0, 1))),
                        Machine(TRUTH, "a", (True, True), ((1,), (0,)))]:
            self.assertEqual(refusal(apart, machine)[0], "BadMachine")


class CheckLeastTest(unittest.TestCase):
    REACHED = ["", "a", "ab"]
    ROWS = [(0, 1, "b"), (0, 2, ""), (1, 2, "")]

    def test_others(self):
        self.assertTrue(check_least(ONE, self.REACHED, self.ROWS))
        self.assertTrue(check_least(rows=self.ROWS, reached=self.REACHED, one=ONE))
        # Any words that lead there, and that part, of any length.
        self.assertTrue(check_least(ONE, ["b" * 70, "baa", "abab" * 60], [(0, 1, "bbb"), (0, 2, "b" * 99), (1, 2, "")]))
        # One in another order is as good: no machine has fewer states.
        turned = Machine(TRUTH, "ab", (False, True, False), ((2, 0), (2, 1), (2, 1)))
        self.assertTrue(check_least(turned, ["", "ab", "a"], [(0, 1, ""), (0, 2, "b"), (1, 2, "")]))
        self.assertTrue(check_least(Machine(TRUTH, "a", (True,), ((0,),)), ["aaa"], []))

    def test_reached_otherwise(self):
        for place in range(3):
            kept = self.REACHED[:place], self.REACHED[place + 1:]
            for thing in [None, "b" if place else "a", "c", "aB", 0, b"", ["a"], ("a",), True, Stranger(), "a\n", {"a"}]:
                self.assertFalse(check_least(ONE, kept[0] + [thing] + kept[1], self.ROWS), thing)
            self.assertFalse(check_least(ONE, kept[0] + kept[1], self.ROWS))
        for thing in ODD + [self.REACHED[::-1], self.REACHED + [""], tuple(self.REACHED), {0: "", 1: "a", 2: "ab"},
                            {"", "a", "ab"}, iter(self.REACHED), [self.REACHED]]:
            self.assertFalse(check_least(ONE, thing, self.ROWS), thing)
            self.assertFalse(check_least(ONE, thing, None), thing)

    def test_rows_otherwise(self):
        for place, row in enumerate(self.ROWS):
            kept = self.ROWS[:place], self.ROWS[place + 1:]
            i, j, word = row
            for thing in [None, list(row), (i, j), row + ("",), (j, i, word), (i, i, word), (i, 3, word), (-1, j, word),
                          (i, j, None), (i, j, "c"), (i, j, b""), (i, j, ["a"]), (i, j, "a"), (i, j, 0), (None, j, word),
                          (bool(i), j, word) if i < 2 else None, (i, True, word) if j == 1 else None, "01b", 0, (),
                          ("0", "1", ""), ([0], j, word), Stranger(), (Stranger(), j, word), (i, j, Stranger())]:
                self.assertFalse(check_least(ONE, self.REACHED, kept[0] + [thing] + kept[1]), thing)
            self.assertFalse(check_least(ONE, self.REACHED, kept[0] + kept[1]))
            self.assertFalse(check_least(ONE, self.REACHED, kept[0] + [row, row] + kept[1]))
        for thing in ODD + [self.ROWS[::-1], self.ROWS + [(2, 2, "")], tuple(self.ROWS), set(self.ROWS), iter(self.ROWS),
                            [self.ROWS], self.ROWS[1:] + self.ROWS[:1], {row: True for row in self.ROWS}]:
            self.assertFalse(check_least(ONE, self.REACHED, thing), thing)

    def test_machines_that_are_not_least(self):
        reached = ["", "a", "ab", "aa"]
        rows = [(0, 1, "b"), (0, 2, ""), (0, 3, "b"), (1, 2, ""), (1, 3, "b"), (2, 3, "")]
        self.assertEqual([led_to(MORE, word) for word in reached], [0, 1, 2, 3])
        for word in ["", "a", "b", "ab", "ba", "aab", "b" * 80]:
            self.assertFalse(check_least(MORE, reached, rows[:4] + [(1, 3, word)] + rows[5:]))

    def test_refusals(self):
        for thing in ODD + [(ONE.ends(), ONE.moves())]:
            self.assertEqual(refusal(check_least, thing, self.REACHED, self.ROWS)[0], "BadMachine", thing)
            self.assertEqual(refusal(check_least, thing, None, None)[0], "BadMachine", thing)

    def test_nothing_is_changed(self):
        kept = repr((self.REACHED, self.ROWS))
        check_least(ONE, self.REACHED, self.ROWS)
        self.assertEqual(repr((self.REACHED, self.ROWS)), kept)


if __name__ == "__main__":
    unittest.main()
