"""Webs, paths, and the distances by states and by rounds."""

import itertools
import unittest

from semirail.ringof import ring_of
from semirail.rounds import by_rounds
from semirail.webs import by_states, need_web, path_weight
from tests.samples import MADE, ODD, Numbers, Stranger, closed, refusal, weights_of

COUNT, LEAST, MOST_RING, SHARE = (ring_of((name,)) for name in ("count", "least", "most", "share"))
CLOSED = [made for made in MADE if closed(made)]

NO_WEBS = [
    None, (), [], 3, "web", (1,), (1, (), ()), [1, ()], (1, []), (0, ()), (13, ()), (-1, ()), (True, ()), ("1", ()),
    (None, ()), (1, None), (1, "ab"), (1, {}), (2, ((0, 1, 1), None)), (2, ([0, 1, 1],)), (2, ((0, 1),)),
    (2, ((0, 1, 1, 1),)), (2, ((0, 2, 1),)), (2, ((2, 0, 1),)), (2, ((-1, 0, 1),)), (2, ((0, -1, 1),)),
    (2, ((True, 0, 1),)), (2, ((0, False, 1),)), (2, ((0, "1", 1),)), (2, ((0, 1, -1),)), (2, ((0, 1, True),)),
    (2, ((0, 1, None),)), (2, ((0, 1, "none"),)), (2, ((0, 1, [1]),)), (2, ((0, 1, 1),) * 81), (2, (((0, 1, 1),),)),
    (2, ((None, 1, 1),)), (2, (0, 1, 1)),
]


def all_rounds(ring, web):
    """The distances from each state, by rounds."""
    return [by_rounds(ring, web, start) for start in range(web[0])]


def sums_to(ring, web, long):
    """For each state the sums over paths to each of at most so many steps."""
    table = [[ring.one() if i == j else ring.zero() for j in range(web[0])] for i in range(web[0])]
    for _ in range(long):
        then = [[ring.one() if i == j else ring.zero() for j in range(web[0])] for i in range(web[0])]
        for i, j, weight in web[1]:
            for start in range(web[0]):
                then[start][j] = ring.plus(then[start][j], ring.times(table[start][i], weight))
        table = then
    return table


def all_paths(web, start):
    """All rows of steps from a state in a web without rounds, with where they lead."""
    rows = [((), start)]
    for row, at in rows:
        rows.extend((row + (number,), step[1]) for number, step in enumerate(web[1]) if step[0] == at)
    return rows


def random_web(numbers, ring, made, most_states=5, most_steps=9, forward=False):
    """A web with weights of a ring; one whose steps all go to later states, if that is wanted."""
    states = 1 + numbers.below(most_states)
    steps = []
    for _ in range(numbers.below(most_steps + 1)):
        i, j = sorted([numbers.below(states), numbers.below(states)])
        if not forward and numbers.below(2):
            i, j = j, i
        if i != j or not forward:
            steps.append((i, j, numbers.one_of(weights_of(made))))
    return states, tuple(steps)


class NeedWebTest(unittest.TestCase):
    def test_webs(self):
        for made in CLOSED:
            ring = ring_of(made)
            steps = tuple((0, 11, weight) for weight in weights_of(made))
            for web in [(1, ()), (12, steps), (12, (steps * 80)[:80]), (1, ((0, 0, ring.one()),))]:
                self.assertIsNone(need_web(ring, web))
                self.assertIsNone(need_web(web=web, ring=ring))

    def test_what_is_no_web(self):
        for thing in NO_WEBS + ODD:
            for call in [need_web, by_states, lambda ring, web: path_weight(ring, web, ()),
                         lambda ring, web: by_rounds(ring, web, None)]:
                self.assertEqual(refusal(call, COUNT, thing)[0], "BadWeb", thing)

    def test_weights_of_other_rings(self):
        self.assertEqual(refusal(need_web, LEAST, (2, ((0, 1, "none"), (0, 1, (1, 2)))))[0], "BadWeb")
        self.assertEqual(refusal(need_web, SHARE, (2, ((0, 1, (2, 4)),)))[0], "BadWeb")
        self.assertIsNone(need_web(SHARE, (2, ((0, 1, (2, 3)),))))

    def test_rings_go_ahead(self):
        for thing in ODD + [("count",)]:
            for web in [(1, ()), None]:
                self.assertEqual(refusal(need_web, thing, web), ("BadRing", ("ring",)))
                self.assertEqual(refusal(by_states, thing, web), ("BadRing", ("ring",)))
                self.assertEqual(refusal(by_rounds, thing, web, None), ("BadRing", ("ring",)))
                self.assertEqual(refusal(path_weight, thing, web, None), ("BadRing", ("ring",)))
        for made in MADE:
            if not closed(made):
                ring = ring_of(made)
                for web in [(1, ()), None, (2, ((0, 1, ring.one()),))]:
                    self.assertEqual(refusal(need_web, ring, web)[0], "NotClosed")
                    self.assertEqual(refusal(by_states, ring, web)[0], "NotClosed")
                    self.assertEqual(refusal(by_rounds, ring, web, None)[0], "NotClosed")
                    self.assertEqual(refusal(path_weight, ring, web, None)[0], "NotClosed")


class PathWeightTest(unittest.TestCase):
    WEB = (3, ((0, 1, 2), (1, 2, 3), (2, 0, 5), (1, 1, 7), (0, 1, 11), (2, 2, 0)))

    def test_paths(self):
        for path, wanted in [([0], 2), ((1,), 3), ([0, 1], 6), ((4, 3, 3, 1, 2, 0), 11 * 49 * 3 * 5 * 2), ([5], 0),
                             ([2, 4, 1], 165), ([1, 5, 2], 0)]:
            self.assertEqual(path_weight(COUNT, self.WEB, path), wanted)
            self.assertEqual(path_weight(COUNT, path=tuple(path), web=self.WEB), wanted)

    def test_long_paths(self):
        web = (2, ((0, 1, 3), (1, 0, -1), (1, 1, 0)))
        self.assertEqual(path_weight(LEAST, web, [0, 1] * 400), 800)
        self.assertEqual(path_weight(LEAST, web, (0,) + (2,) * 500), 3)
        self.assertEqual(path_weight(SHARE, (1, ((0, 0, (2, 3)),)), [0] * 300), (2 ** 300, 3 ** 300))

    def test_no_paths(self):
        for path in [[], (), [1, 0], [0, 0], (0, 2), [6], [-1], [True], [False], [0, True], [None], ["0"], [0, [1]],
                     [(0,)], None, 0, "0", {0: 1}, {0}, range(1), Stranger(), iter([0]), b"0", [0, 1, 2, 3]]:
            self.assertEqual(refusal(path_weight, COUNT, self.WEB, path)[0], "BadPath", path)
        self.assertEqual(refusal(path_weight, COUNT, (1, ()), [0])[0], "BadPath")

    def test_the_path_stays_as_it_was(self):
        path = [0, 1]
        path_weight(COUNT, self.WEB, path)
        self.assertEqual(path, [0, 1])


class DistancesTest(unittest.TestCase):
    def agree(self, ring, web, wanted=None):
        """Both ways tell the same, and it solves the equations of point 5."""
        table = by_states(ring, web)
        self.assertEqual(repr(all_rounds(ring, web)), repr(table), (ring, web))
        if wanted is not None:
            self.assertEqual(table, wanted, (ring, web))
        for i, j in itertools.product(range(web[0]), repeat=2):
            ways = [ring.times(weight, table[k][j]) for start, k, weight in web[1] if start == i]
            ends = [ring.times(table[i][k], weight) for k, end, weight in web[1] if end == j]
            first = [ring.one()] if i == j else []
            self.assertEqual(ring.total(first + ways), table[i][j])
            self.assertEqual(ring.total(first + ends), table[i][j])
        return table

    def test_without_steps(self):
        for made in CLOSED:
            ring = ring_of(made)
            for states in (1, 2, 12):
                self.agree(ring, (states, ()), sums_to(ring, (states, ()), 0))

    def test_without_rounds_all_paths_listed(self):
        numbers = Numbers(1)
        for made in CLOSED:
            ring = ring_of(made)
            for _ in range(12):
                web = random_web(numbers, ring, made, forward=True)
                wanted = [[ring.zero()] * web[0] for _ in range(web[0])]
                for start in range(web[0]):
                    for path, end in all_paths(web, start):
                        weight = path_weight(ring, web, path) if path else ring.one()
                        wanted[start][end] = ring.plus(wanted[start][end], weight)
                self.agree(ring, web, wanted)

    def test_with_rounds_where_one_is_the_top(self):
        numbers = Numbers(2)
        for made in [("truth",), ("narrow",), ("share",), ("lot", 3), ("pair", ("lot", 3), ("narrow",))]:
            ring = ring_of(made)
            for _ in range(40):
                web = random_web(numbers, ring, made)
                self.agree(ring, web, sums_to(ring, web, 2 * web[0]))

    def test_counts(self):
        numbers = Numbers(3)
        for _ in range(150):
            web = random_web(numbers, COUNT, ("count",))
            few, many = sums_to(COUNT, web, web[0] - 1), sums_to(COUNT, web, 2 * web[0] - 1)
            wanted = [[a if a == b else "endless" for a, b in zip(row, later)] for row, later in zip(few, many)]
            self.agree(COUNT, web, wanted)

    def test_counts_by_hand(self):
        self.agree(COUNT, (1, ((0, 0, 1),)), [["endless"]])
        self.agree(COUNT, (1, ((0, 0, 0),)), [[1]])
        self.agree(COUNT, (2, ((0, 1, 2), (0, 1, 3))), [[1, 5], [0, 1]])
        # A round of 1 at 1 to which no way leads from 2, and from which none leads to 3.
        self.agree(COUNT, (4, ((0, 1, 1), (1, 1, 1), (2, 3, 4), (0, 3, 2))),
                   [[1, "endless", 0, 2], [0, "endless", 0, 0], [0, 0, 1, 4], [0, 0, 0, 1]])
        # A way of weight 0 off a round, and one onto it.
        self.agree(COUNT, (3, ((0, 1, 1), (1, 0, 1), (1, 2, 0))), [["endless"] * 2 + [0]] * 2 + [[0, 0, 1]])
        self.agree(COUNT, (3, ((0, 1, 0), (1, 2, 1), (2, 1, 1))), [[1, 0, 0]] + [[0, "endless", "endless"]] * 2)
        self.agree(COUNT, (2, ((0, 1, "endless"), (1, 0, 0))), [[1, "endless"], [0, 1]])
        chain = tuple((k, k + 1, 10) for k in range(11)) + ((0, 0, 1),)
        table = self.agree(COUNT, (12, chain))
        self.assertEqual(table[0], ["endless"] * 12)
        self.assertEqual(table[1][11], 10 ** 10)

    def test_a_long_round_that_begins_late(self):
        web = (12, tuple((k, k + 1, 1) for k in range(11)) + ((11, 9, 1),))
        table = self.agree(COUNT, web)
        self.assertEqual(table[0], [1] * 9 + ["endless"] * 3)
        web = (12, tuple((k, (k + 1) + 0, 10 ** 9) for k in range(9)) + ((9, 10, 5), (10, 11, -3), (11, 9, -3)))
        table = self.agree(LEAST, web)
        self.assertEqual(table[0][9:], ["endless"] * 3)
        self.assertEqual(table[0][8], 8 * 10 ** 9)
        self.assertEqual(table[9][:9], ["none"] * 9)

    def test_least_and_most(self):
        numbers = Numbers(4)
        for name, sign in [("least", 1), ("most", -1)]:
            ring = ring_of((name,))
            for _ in range(150):
                web = random_web(numbers, ring, (name,))
                self.agree(ring, web, shortest(web, sign))

    def test_least_and_most_turn_into_one_another(self):
        numbers = Numbers(5)
        turn = {"none": "none", "endless": "endless"}
        for _ in range(40):
            web = random_web(numbers, LEAST, ("least",))
            other = (web[0], tuple((i, j, turn[w] if w in turn else -w) for i, j, w in web[1]))
            wanted = [[turn[w] if w in turn else -w for w in row] for row in by_states(LEAST, web)]
            self.agree(MOST_RING, other, wanted)

    def test_least_by_hand(self):
        self.agree(LEAST, (2, ((0, 1, 4), (1, 0, -4))), [[0, 4], [-4, 0]])
        self.agree(LEAST, (2, ((0, 1, 4), (1, 0, -5))), [["endless"] * 2] * 2)
        self.agree(LEAST, (3, ((0, 1, -1), (1, 1, "endless"), (2, 0, "none"))),
                   [[0, "endless", "none"], ["none", "endless", "none"], ["none", "none", 0]])
        self.agree(MOST_RING, (2, ((0, 1, -4), (0, 1, -2), (1, 1, 0))), [[0, -2], ["none", 0]])
        self.agree(MOST_RING, (1, ((0, 0, 1),)), [["endless"]])

    def test_pairs_part_by_part(self):
        numbers = Numbers(6)
        for made in [made for made in CLOSED if made[0] == "pair"]:
            ring, left, right = ring_of(made), ring_of(made[1]), ring_of(made[2])
            for _ in range(25):
                web = random_web(numbers, ring, made)
                webs = [(web[0], tuple((i, j, weight[part]) for i, j, weight in web[1])) for part in (0, 1)]
                parts = zip(by_states(left, webs[0]), by_states(right, webs[1]))
                self.agree(ring, web, [list(zip(row, other)) for row, other in parts])

    def test_share_with_great_bottoms(self):
        great = 10 ** 150
        steps = tuple((k, (k + 1) % 12, (great - k, great + 1 + 3 * k)) for k in range(12))
        steps = tuple((i, j, lowest(*weight)) for i, j, weight in steps)
        table = self.agree(SHARE, (12, steps))
        top, bottom = 1, 1
        for _, _, weight in steps[:11]:
            top, bottom = lowest(top * weight[0], bottom * weight[1])
        self.assertEqual(table[0][11], (top, bottom))

    def test_as_large_as_can_be(self):
        numbers = Numbers(7)
        for made in [("truth",), ("count",), ("least",), ("most",), ("narrow",), ("share",), ("lot", 12), CLOSED[-1]]:
            ring = ring_of(made)
            weights = weights_of(made)
            steps = tuple((numbers.below(12), numbers.below(12), numbers.one_of(weights)) for _ in range(80))
            self.agree(ring, (12, steps))
            forward = tuple((min(i, j), max(i, j), weight) for i, j, weight in steps if i != j)
            self.agree(ring, (12, forward), sums_to(ring, (12, forward), 11))

    def test_told_lists_are_the_askers_own(self):
        web = (2, ((0, 1, 4),))
        table, row = by_states(LEAST, web), by_rounds(LEAST, web, 0)
        self.assertIsNot(table[0], table[1])
        table[0][0], row[0] = 99, 99
        table.pop()
        self.assertEqual(by_states(LEAST, web), [[0, 4], ["none", 0]])
        self.assertEqual(by_rounds(LEAST, web, 0), [0, 4])

    def test_by_rounds_of_no_state(self):
        web = (2, ((0, 1, 4),))
        for thing in [-1, 2, 12, True, False, None, "0", (0,), [0], Stranger(), 10 ** 30]:
            self.assertEqual(refusal(by_rounds, LEAST, web, thing)[0], "BadNumber")
            self.assertEqual(refusal(by_rounds, LEAST, None, thing)[0], "BadWeb")
        self.assertEqual(by_rounds(start=1, web=web, ring=LEAST), ["none", 0])


def lowest(top, bottom):
    """A fraction in lowest terms, as a pair."""
    a, b = top, bottom
    while b:
        a, b = b, a % b
    return top // a, bottom // a


def shortest(web, sign):
    """The least sums (greatest for sign -1), by sums of ever more steps and by where bad rounds lead."""
    far = 10 ** 60
    states = range(web[0])
    cost = [[0 if i == j else None for j in states] for i in states]
    steps = [(i, j, -far ** 3 if weight == "endless" else sign * weight) for i, j, weight in web[1] if weight != "none"]
    rows = []
    for _ in range(3 * web[0]):
        for i, j, weight in steps:
            for start in states:
                if cost[start][i] is not None and (cost[start][j] is None or cost[start][i] + weight < cost[start][j]):
                    cost[start][j] = cost[start][i] + weight
        rows.append([list(row) for row in cost])
    reach = [[cost[i][j] is not None for j in states] for i in states]
    # A state lies on a bad round where a way back to itself is below 0.
    bad = [rows[-1][k][k] < 0 for k in states]
    table = [[None] * web[0] for _ in states]
    for i, j in itertools.product(states, repeat=2):
        endless = any(reach[i][k] and bad[k] and reach[k][j] for k in states)
        if not reach[i][j]:
            table[i][j] = "none"
        elif endless or cost[i][j] < -far ** 2:
            table[i][j] = "endless"
        else:
            table[i][j] = sign * cost[i][j]
    return table


if __name__ == "__main__":
    unittest.main()
