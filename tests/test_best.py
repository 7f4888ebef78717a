"""Distances from the best first."""

import unittest

from semirail.best import by_best
from semirail.ringof import ring_of
from semirail.rounds import by_rounds
from semirail.webs import by_states
from tests.samples import MADE, ODD, Numbers, Stranger, closed, refusal, rings, weights_of
from tests.test_webs import NO_WEBS, random_web

ORDERED = ["truth", "least", "most", "narrow", "share"]
STEADY = {"truth": [False, True], "least": [0, 1, 2, 5, 10 ** 30, "none"], "most": [0, -1, -2, -7, -10 ** 30, "none"],
          "narrow": [0, 1, 3, 4, 10 ** 30, "endless"], "share": [(0, 1), (1, 1), (1, 2), (2, 3), (999, 1000)]}
LEAST, MOST_RING = ring_of(("least",)), ring_of(("most",))


def steady_web(numbers, name, states, steps):
    """A web of an ordered ring of which no step betters."""
    return states, tuple((numbers.below(states), numbers.below(states), numbers.one_of(STEADY[name]))
                         for _ in range(steps))


class ByBestTest(unittest.TestCase):
    def agree(self, ring, web):
        table = by_states(ring, web)
        for start in range(web[0]):
            row = by_best(ring, web, start)
            self.assertIs(type(row), list)
            self.assertEqual(repr(row), repr(table[start]), (ring, web))
            self.assertEqual(repr(row), repr(by_rounds(ring, web, start)), (ring, web))

    def test_three_ways_tell_the_same(self):
        numbers = Numbers(11)
        for name in ORDERED:
            ring = ring_of((name,))
            for states in (1, 2, 3, 5, 12):
                self.agree(ring, (states, ()))
                for steps in (1, 2, 4, 9, 20, 80):
                    for _ in range(4):
                        self.agree(ring, steady_web(numbers, name, states, steps))

    def test_without_rounds(self):
        numbers = Numbers(12)
        for name in ORDERED:
            for _ in range(20):
                states, steps = steady_web(numbers, name, 7, 14)
                steps = tuple((min(i, j), max(i, j), weight) for i, j, weight in steps if i != j)
                self.agree(ring_of((name,)), (states, steps))

    def test_by_hand(self):
        # The way over 1 and 2 is better than the straight one, and is found after it.
        self.assertEqual(by_best(LEAST, (4, ((0, 3, 9), (0, 1, 1), (1, 2, 1), (2, 3, 1))), 0), [0, 1, 2, 3])
        self.assertEqual(by_best(MOST_RING, (3, ((0, 2, -9), (0, 1, -1), (1, 2, -1))), 0), [0, -1, -2])
        self.assertEqual(by_best(ring_of(("narrow",)), (3, ((0, 2, 2), (0, 1, 9), (1, 2, 5))), 0), ["endless", 9, 5])
        self.assertEqual(by_best(ring_of(("share",)), (3, ((0, 2, (1, 3)), (0, 1, (2, 3)), (1, 2, (3, 4)))), 0),
                         [(1, 1), (2, 3), (1, 2)])
        self.assertEqual(by_best(ring_of(("truth",)), (3, ((0, 1, True), (1, 2, False))), 0), [True, True, False])
        self.assertEqual(by_best(LEAST, (2, ((0, 1, "none"), (1, 1, 3))), 0), [0, "none"])
        self.assertEqual(by_best(start=1, web=(2, ((0, 1, 4),)), ring=LEAST), ["none", 0])

    def test_other_rings_have_no_order(self):
        for ring in rings():
            if ring.is_closed() and ring.made()[0] not in ORDERED:
                for web in [(1, ()), (2, ((0, 1, ring.one()),))]:
                    self.assertEqual(refusal(by_best, ring, web, 0), ("NoOrder", (None,)))
                    self.assertEqual(refusal(by_best, ring, web, 2)[0], "BadNumber")

    def test_the_first_step_that_betters(self):
        for ring, good, bad in [(LEAST, 3, [-1, "endless", -10 ** 30]), (MOST_RING, -3, [1, "endless", 10 ** 30])]:
            for worse in bad:
                for place in (0, 2, 79):
                    steps = [(0, 1, good)] * 80
                    steps[place] = (1, 1, worse)
                    steps[79] = (1, 0, worse)
                    self.assertEqual(refusal(by_best, ring, (2, tuple(steps)), 0), ("NoOrder", (place,)))
                    # Also where no path comes to it.
                    self.assertEqual(refusal(by_best, ring, (3, tuple(steps)), 2), ("NoOrder", (place,)))
            for steady in (0, "none"):
                self.assertEqual(by_best(ring, (1, ((0, 0, steady),)), 0), [0])

    def test_random_webs_are_refused_or_agree(self):
        numbers = Numbers(13)
        for ring in (LEAST, MOST_RING):
            for _ in range(60):
                web = random_web(numbers, ring, ring.made(), 4, 3)
                worse = [number for number, step in enumerate(web[1]) if ring.plus(0, step[2]) != 0]
                if worse:
                    self.assertEqual(refusal(by_best, ring, web, 0), ("NoOrder", (worse[0],)))
                else:
                    self.agree(ring, web)

    def test_order_of_refusals(self):
        for thing in ODD:
            self.assertEqual(refusal(by_best, thing, None, None), ("BadRing", ("ring",)))
            self.assertEqual(refusal(by_best, LEAST, thing, None)[0], "BadWeb")
        for made in MADE:
            if not closed(made):
                self.assertEqual(refusal(by_best, ring_of(made), None, None)[0], "NotClosed")
                self.assertEqual(refusal(by_best, ring_of(made), (1, ()), 0)[0], "NotClosed")
        for web in NO_WEBS:
            self.assertEqual(refusal(by_best, ring_of(("count",)), web, None)[0], "BadWeb", web)
        for thing in [-1, 2, True, False, None, "0", (0,), [0], Stranger(), 10 ** 30, b"", len]:
            for made in [("least",), ("count",), ("lot", 3), ("pair", ("truth",), ("truth",))]:
                ring = ring_of(made)
                bad = (2, ((0, 1, weights_of(made)[-1]),))
                self.assertEqual(refusal(by_best, ring, bad, thing)[0], "BadNumber", thing)

    def test_the_told_list_is_the_askers_own(self):
        web = (2, ((0, 1, 4),))
        row = by_best(LEAST, web, 0)
        row[0] = 99
        self.assertEqual(by_best(LEAST, web, 0), [0, 4])


if __name__ == "__main__":
    unittest.main()
