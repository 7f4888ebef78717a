"""What shows that distances are endless, or that a row has them."""

import unittest

from semirail.ringof import ring_of
from semirail.rounds import by_rounds
from semirail.showing import check, paper, why_endless
from semirail.webs import by_states
from tests.samples import MADE, ODD, Numbers, Stranger, closed, refusal, rings
from tests.test_best import ORDERED, STEADY, steady_web
from tests.test_webs import NO_WEBS, random_web

COUNT, LEAST, MOST_RING = (ring_of((name,)) for name in ("count", "least", "most"))
GROWING = [COUNT, LEAST, MOST_RING]


def leads(web, path, start, end):
    """Whether a tuple is a path from one state to another, by point 5."""
    at = start
    for number in path:
        if type(number) is not int or not 0 <= number < len(web[1]) or web[1][number][0] != at:
            return False
        at = web[1][number][1]
    return type(path) is tuple and at == end


def shows(ring, web, i, j, told):
    """Whether three paths show an endless distance, by point 6."""
    to, turn, on = told
    middle = web[1][to[-1]][1] if to else i
    if type(told) is not tuple or not (leads(web, to, i, middle) and leads(web, turn, middle, middle)
                                       and leads(web, on, middle, j)):
        return False
    weights = [web[1][number][2] for number in to + turn + on]
    if ring.zero() in weights:
        return False
    weight = ring.product([web[1][number][2] for number in turn])
    better = {"count": True, "least": weight != "endless" and weight < 0, "most": weight != "endless" and weight > 0}
    return "endless" in weights or (turn != () and better[ring.made()[0]])


def weighs(ring, web, path):
    """The weight of a path, by hand."""
    told = ring.one()
    for number in path:
        told = ring.times(told, web[1][number][2])
    return told


class WhyEndlessTest(unittest.TestCase):
    def look(self, ring, web):
        """One such for each endless distance, None of each other."""
        table = by_states(ring, web)
        for i in range(web[0]):
            for j in range(web[0]):
                told = why_endless(ring, web, i, j)
                self.assertEqual(told, why_endless(ring, web, i, j))
                if table[i][j] == "endless":
                    self.assertTrue(shows(ring, web, i, j, told), (ring, web, i, j, told))
                else:
                    self.assertIsNone(told, (ring, web, i, j))
        return sum(row.count("endless") for row in table)

    def test_random_webs(self):
        numbers = Numbers(21)
        for ring in GROWING:
            found = sum(self.look(ring, random_web(numbers, ring, ring.made(), 6, 9)) for _ in range(120))
            self.assertGreater(found, 100)

    def test_webs_without_a_step_of_endless(self):
        numbers = Numbers(22)
        for ring, weights in [(COUNT, [0, 1, 2]), (LEAST, ["none", -3, -1, 0, 1, 2, 4]), (MOST_RING, [-3, -2, 1, 5])]:
            found = 0
            for _ in range(120):
                states = 1 + numbers.below(7)
                steps = tuple((numbers.below(states), numbers.below(states), numbers.one_of(weights))
                              for _ in range(numbers.below(2 * states)))
                found += self.look(ring, (states, steps))
            self.assertGreater(found, 100)

    def test_a_long_round_that_hardly_betters(self):
        for ring, sign in [(LEAST, 1), (MOST_RING, -1)]:
            ahead = tuple((k, k + 1, sign * 5) for k in range(11))
            self.assertEqual(self.look(ring, (12, ahead + ((11, 0, -sign * 56),))), 144)
            self.assertEqual(self.look(ring, (12, ahead + ((11, 0, -sign * 55),))), 0)
            self.assertEqual(self.look(ring, (12, ahead + ((11, 0, -sign * 55), (11, 5, -sign * 31)))), 144)

    def test_as_large_as_can_be(self):
        numbers = Numbers(23)
        for ring, weights in [(COUNT, [0, 0, 0, 1]), (LEAST, [-1, 4, 5, 6]), (MOST_RING, [1, -4, -5, -6])]:
            self.look(ring, (12, tuple((numbers.below(12), numbers.below(12), numbers.one_of(weights))
                                       for _ in range(80))))

    def test_by_hand(self):
        self.assertEqual(why_endless(COUNT, (1, ((0, 0, 1),)), 0, 0)[1], (0,))
        self.assertIsNone(why_endless(COUNT, (1, ((0, 0, 0),)), 0, 0))
        self.assertIsNone(why_endless(LEAST, (1, ((0, 0, 0),)), 0, 0))
        self.assertIsNone(why_endless(LEAST, (2, ((0, 0, -1), (0, 1, "none"))), 0, 1))
        self.assertIsNone(why_endless(MOST_RING, (1, ((0, 0, -1),)), 0, 0))
        to, turn, on = why_endless(LEAST, (3, ((0, 1, 1), (1, 2, "endless"))), 0, 2)
        self.assertEqual((to + turn + on, turn), ((0, 1), ()))
        web = (2, ((0, 1, 7), (1, 1, -2)))
        self.assertTrue(shows(LEAST, web, 0, 1, why_endless(j=1, i=0, web=web, ring=LEAST)))

    def test_other_rings(self):
        for ring in rings():
            if ring.is_closed() and ring.made()[0] not in ("count", "least", "most"):
                self.assertEqual(refusal(why_endless, ring, (2, ()), 0, 1), ("NoOrder", (None,)))
                self.assertEqual(refusal(why_endless, ring, (2, ()), 0, 2)[0], "BadNumber")
                self.assertEqual(refusal(why_endless, ring, (2, ()), 2, 0)[0], "BadNumber")

    def test_order_of_refusals(self):
        for thing in ODD:
            self.assertEqual(refusal(why_endless, thing, None, None, None), ("BadRing", ("ring",)))
            self.assertEqual(refusal(why_endless, COUNT, thing, None, None)[0], "BadWeb")
        self.assertEqual(refusal(why_endless, ring_of(("rest", 6)), None, None, None)[0], "NotClosed")
        for thing in [-1, 2, True, False, None, "0", (0,), [0], Stranger(), 10 ** 30]:
            for ring in (COUNT, ring_of(("share",))):
                self.assertEqual(refusal(why_endless, ring, (2, ()), thing, 0)[0], "BadNumber")
                self.assertEqual(refusal(why_endless, ring, (2, ()), 0, thing)[0], "BadNumber")


class PaperTest(unittest.TestCase):
    def look(self, ring, web):
        """A paper of each row, by point 6, which the looker takes."""
        for start in range(web[0]):
            row = by_rounds(ring, web, start)
            told = paper(ring, web, start)
            if ring.made()[0] in ("least", "most") and "endless" in row:
                self.assertIsNone(told)
                continue
            self.assertIs(type(told), list)
            self.assertEqual(len(told), web[0])
            for state, path in enumerate(told):
                if path is None:
                    self.assertEqual(row[state], ring.zero())
                else:
                    self.assertTrue(leads(web, path, start, state) and len(path) < web[0], (ring, web, path))
                    self.assertEqual(weighs(ring, web, path), row[state])
            self.assertIs(check(ring, web, start, row, told), True)

    def test_steady_webs(self):
        numbers = Numbers(24)
        for name in ORDERED:
            ring = ring_of((name,))
            for states, steps in [(1, 0), (1, 3), (2, 3), (4, 6), (5, 12), (12, 30), (12, 80)]:
                for _ in range(6):
                    self.look(ring, steady_web(numbers, name, states, steps))

    def test_webs_whose_steps_better(self):
        numbers = Numbers(25)
        for ring, weights in [(LEAST, [-1, 0, 1, 2, 3, "none"]), (MOST_RING, [1, 0, -1, -2, -3, "none"])]:
            for _ in range(150):
                states = 1 + numbers.below(6)
                steps = tuple((numbers.below(states), numbers.below(states), numbers.one_of(weights))
                              for _ in range(numbers.below(9)))
                self.look(ring, (states, steps))
        for name in ORDERED:
            for _ in range(30):
                self.look(ring_of((name,)), random_web(numbers, ring_of((name,)), (name,)))

    def test_a_round_of_one_and_a_long_chain(self):
        chain = tuple((k + 1, k, -1) for k in range(11))
        self.look(LEAST, (12, chain + ((0, 11, 11),)))
        self.assertEqual(paper(LEAST, (12, chain), 11), [tuple(range(10, state - 1, -1)) for state in range(12)])
        self.assertEqual(paper(start=0, web=(2, ()), ring=LEAST), [(), None])

    def test_check_of_one_part_otherwise(self):
        web = (4, ((0, 1, 2), (1, 2, 3), (0, 2, 9), (2, 1, 0), (1, 1, 0), (3, 0, 1), (0, 1, 2)))
        row, good = [0, 2, 5, "none"], [(), (0,), (0, 1), None]
        self.assertIs(check(LEAST, web, 0, row, good), True)
        self.assertIs(check(ring=LEAST, web=web, start=0, row=row, paper=good), True)
        longer = [[(), (6,), (0, 1), None], [(), (0, 4), (0, 4, 1), None], [(), (0, 4) + (4,) * 500, (6, 4, 4, 1), None]]
        for other in longer:
            self.assertIs(check(LEAST, web, 0, row, other), True)
        papers = [
            [(), (0, 1), (0, 1), None], [(), (0,), (0, 1, 3), None], [(), (0,), (2,), None], [(), (1,), (0, 1), None],
            [(0,), (0,), (0, 1), None], [(), (), (0, 1), None], [(), (0,), (0, 1), ()], [(), (0,), (0, 0), None],
            [(), (0,), (1, 0), None], [(5,), (0,), (0, 1), None], [(), (5, 0), (0, 1), None], [(), [0], (0, 1), None],
            [(), None, (0, 1), None], [None, (0,), (0, 1), None], [(), (0,), (0, 1)], [(), (0,), (0, 1), None, None],
            [(), (True,), (0, 1), None], [(False,), (0,), (0, 1), None], [(), (7,), (0, 1), None],
            [(), (-1,), (0, 1), None], [(), ("0",), (0, 1), None], [(), 0, (0, 1), None], [(), "0", (0, 1), None],
            [(), (0, None), (0, 1), None], [(), ((0,),), (0, 1), None], [False, (0,), (0, 1), None],
            [(), (0,), (0, 1), False], [(), (0,), (0, 1), (5,)], tuple(good), {}, None, "paper", 4, [],
            {0: (), 1: (0,), 2: (0, 1), 3: None}, iter(good), [Stranger()] * 4, [good] * 4,
        ]
        for wrong in papers + ODD:
            self.assertIs(check(LEAST, web, 0, row, wrong), False, wrong)
        rows = [[0, 2, 5], [0, 2, 5, "none", "none"], [0, 2, 5, 7], [0, 2, 4, "none"], [0, 2, 6, "none"],
                [1, 2, 5, "none"], [-1, 2, 5, "none"], ["none", 2, 5, "none"], ["endless", 2, 5, "none"],
                [0, 2, 5, None], [0, 2, 5, "endless"], [False, 2, 5, "none"], [0, 2, (5,), "none"], (0, 2, 5, "none"),
                None, "row", 0, [], {}, [[0, 2, 5, "none"]], iter(row), [0, 2, 5, Stranger()], [0, 3, 5, "none"]]
        for wrong in rows + ODD:
            self.assertIs(check(LEAST, web, 0, wrong, good), False, wrong)
            self.assertIs(check(LEAST, web, 0, wrong, None), False, wrong)

    def test_check_where_paths_are_shown_but_a_step_betters(self):
        web = (3, ((0, 1, 2), (1, 2, 3), (0, 2, 9)))
        self.assertIs(check(LEAST, web, 0, [0, 2, 9], [(), (0,), (2,)]), False)
        self.assertIs(check(LEAST, web, 0, [0, 2, "none"], [(), (0,), None]), False)
        # A round below 0: no row can be shown, nor one that isn't as good as the empty path.
        self.assertIs(check(LEAST, (1, ((0, 0, -1),)), 0, [0], [()]), False)
        self.assertIs(check(LEAST, (1, ((0, 0, -1),)), 0, [-1], [(0,)]), False)
        self.assertIs(check(LEAST, (1, ((0, 0, 1),)), 0, [1], [(0,)]), False)
        self.assertIs(check(LEAST, (1, ((0, 0, 1),)), 0, [0], [(0,)]), False)

    def test_check_of_a_path_from_elsewhere_or_to_elsewhere(self):
        web = (3, ((0, 1, 2), (2, 1, 2), (0, 2, 7)))
        self.assertIs(check(LEAST, web, 0, [0, 2, 7], [(), (0,), (2,)]), True)
        self.assertIs(check(LEAST, web, 0, [0, 2, 7], [(), (1,), (2,)]), False)
        web = (3, ((0, 1, 2), (0, 2, 2)))
        self.assertIs(check(LEAST, web, 0, [0, 2, 2], [(), (0,), (1,)]), True)
        self.assertIs(check(LEAST, web, 0, [0, 2, 2], [(), (1,), (1,)]), False)

    def test_check_of_zero_and_endless(self):
        narrow, truth = ring_of(("narrow",)), ring_of(("truth",))
        self.assertIs(check(narrow, (2, ((0, 1, "endless"),)), 0, ["endless", "endless"], [(), (0,)]), True)
        self.assertIs(check(truth, (2, ((0, 1, False),)), 0, [True, False], [(), None]), True)
        # A path of zero shows zero, too.
        self.assertIs(check(truth, (2, ((0, 1, False),)), 0, [True, False], [(), (0,)]), True)
        self.assertIs(check(truth, (2, ((0, 1, False),)), 0, [1, 0], [(), None]), False)
        self.assertIs(check(truth, (2, ((0, 1, True),)), 0, [True, False], [(), None]), False)
        self.assertIs(check(LEAST, (2, ((0, 1, "endless"),)), 0, [0, "endless"], [(), (0,)]), True)

    def test_check_of_each_ring_with_one_weight_otherwise(self):
        numbers = Numbers(26)
        for name in ORDERED:
            ring = ring_of((name,))
            for _ in range(12):
                web = steady_web(numbers, name, 1 + numbers.below(6), 8)
                row, told = by_rounds(ring, web, 0), paper(ring, web, 0)
                for state in range(web[0]):
                    for weight in STEADY[name]:
                        if weight != row[state]:
                            other = row[:state] + [weight] + row[state + 1:]
                            self.assertIs(check(ring, web, 0, other, told), False)
                    if told[state] not in (None, ()):
                        self.assertIs(check(ring, web, 0, row, told[:state] + [None] + told[state + 1:]), False)
                        self.assertIs(check(ring, web, 0, row, told[:state] + [list(told[state])] + told[state + 1:]),
                                      False)

    def test_other_rings(self):
        for ring in rings():
            if ring.is_closed() and ring.made()[0] not in ORDERED:
                for call, more in [(paper, ()), (check, (None, None)), (check, ([ring.one(), ring.zero()], [(), None]))]:
                    self.assertEqual(refusal(call, ring, (2, ()), 0, *more), ("NoOrder", (None,)))
                    self.assertEqual(refusal(call, ring, (2, ()), 2, *more)[0], "BadNumber")

    def test_order_of_refusals(self):
        for call, more in [(paper, ()), (check, (None, None))]:
            for thing in ODD:
                self.assertEqual(refusal(call, thing, None, None, *more), ("BadRing", ("ring",)))
                self.assertEqual(refusal(call, LEAST, thing, None, *more)[0], "BadWeb")
            for web in NO_WEBS:
                self.assertEqual(refusal(call, COUNT, web, None, *more)[0], "BadWeb")
            for made in MADE:
                if not closed(made):
                    self.assertEqual(refusal(call, ring_of(made), None, None, *more)[0], "NotClosed")
            for thing in [-1, 2, True, False, None, "0", (0,), [0], Stranger(), 10 ** 30]:
                self.assertEqual(refusal(call, LEAST, (2, ()), thing, *more)[0], "BadNumber")

    def test_nothing_handed_in_is_changed(self):
        row, told = [0, 4], [(), (0,)]
        check(LEAST, (2, ((0, 1, 4),)), 0, row, told)
        self.assertEqual((row, told), ([0, 4], [(), (0,)]))
        mine = paper(LEAST, (2, ((0, 1, 4),)), 0)
        mine.pop()
        self.assertEqual(paper(LEAST, (2, ((0, 1, 4),)), 0), told)


if __name__ == "__main__":
    unittest.main()
