"""Leadings: what they lead to, that they keep what they should, and what is refused."""

import unittest

from semirail.leadings import led, led_ring
from semirail.ringof import ring_of
from tests.samples import ODD, OR_AND, THREE, Stranger, refusal, weights_of

BROKEN_TABLE = ("table", ((0, 0), (1, 1)), ((0, 0), (0, 1)))

# The ring, the leading, the ring that it leads to.
LEADINGS = [
    (("terms", 1), ("unknowns", ("count",), (3,)), ("count",)),
    (("terms", 2), ("unknowns", ("count",), (2, "endless")), ("count",)),
    (("terms", 2), ("unknowns", ("least",), (-1, 5)), ("least",)),
    (("terms", 2), ("unknowns", ("truth",), (True, False)), ("truth",)),
    (("terms", 4), ("unknowns", ("rest", 7), (1, 2, 3, 6)), ("rest", 7)),
    (("terms", 2), ("unknowns", THREE, (2, 1)), THREE),
    (("terms", 2), ("unknowns", ("terms", 1), ((((1,), 1),), (((0,), 2),))), ("terms", 1)),
    (("terms", 1), ("unknowns", ("pair", ("share",), ("lot", 3)), (((1, 2), 5),)), ("pair", ("share",), ("lot", 3))),
    (("count",), ("some",), ("truth",)),
    (("least",), ("turned",), ("most",)),
    (("most",), ("turned",), ("least",)),
    (("lot", 1), ("bit", 0), ("truth",)),
    (("lot", 3), ("bit", 0), ("truth",)),
    (("lot", 3), ("bit", 2), ("truth",)),
    (("lot", 12), ("bit", 11), ("truth",)),
    (("pair", ("count",), ("rest", 6)), ("first",), ("count",)),
    (("pair", ("count",), ("rest", 6)), ("second",), ("rest", 6)),
    (("pair", ("pair", ("truth",), THREE), ("least",)), ("first",), ("pair", ("truth",), THREE)),
    (("rest", 12), ("rest", 2), ("rest", 2)),
    (("rest", 12), ("rest", 6), ("rest", 6)),
    (("rest", 12), ("rest", 12), ("rest", 12)),
    (("rest", 1000), ("rest", 8), ("rest", 8)),
]

NO_LEADINGS = {
    ("truth",): [("some",), ("turned",), ("bit", 0), ("first",), ("rest", 2)],
    ("count",): [("some", 1), ("some", ()), ["some"], "some", ("turned",), ("Some",), ("bit", 0),
                 ("unknowns", ("count",), (1,))],
    ("least",): [("turned", 1), ["turned"], ("some",), "turned"],
    ("most",): [("turned", None), ("some",)],
    ("narrow",): [("turned",), ("some",)],
    ("lot", 3): [("bit",), ("bit", 3), ("bit", -1), ("bit", True), ("bit", False), ("bit", "0"), ("bit", None),
                 ("bit", 0, 0), ["bit", 0], ("bit", 10 ** 30), ("bit", [0]), ("some",)],
    ("pair", ("count",), ("least",)): [("first", 1), ("second", 1), ("third",), ["first"], ("some",), ("turned",)],
    ("rest", 12): [("rest",), ("rest", 1), ("rest", 0), ("rest", 5), ("rest", 24), ("rest", -2), ("rest", True),
                   ("rest", "2"), ("rest", 2, 2), ["rest", 2], ("rest", None), ("first",)],
    OR_AND: [("rest", 2), ("some",), ("first",), ("second",), ("bit", 0), ("turned",)],
    ("terms", 2): [
        ("unknowns",), ("unknowns", ("count",)), ("unknowns", ("count",), (1,)), ("unknowns", ("count",), (1, 2, 3)),
        ("unknowns", ("count",), [1, 2]), ("unknowns", ("count",), (1, -2)), ("unknowns", ("count",), (1, True)),
        ("unknowns", ("count",), (1, 2), 3), ["unknowns", ("count",), (1, 2)], ("unknowns", ["count"], (1, 2)),
        ("unknowns", "count", (1, 2)), ("unknowns", ("counts",), (1, 2)), ("unknowns", ("rest", 1), (0, 0)),
        ("unknowns", BROKEN_TABLE, (0, 1)), ("unknowns", ("pair", ("count",), BROKEN_TABLE), ((0, 1), (0, 1))),
        ("unknowns", ("truth",), (1, 0)), ("unknowns", ("count",), None), ("unknowns", None, (1, 2)),
        ("unknowns", ring_of(("count",)), (1, 2)), ("some",),
        ("unknowns", ("pair", ("pair", ("pair", ("pair", ("truth",), ("truth",)), ("truth",)), ("truth",)), ("truth",)),
         (True, True)),
    ],
}


class LeadingsTest(unittest.TestCase):
    def test_rings_to_which_they_lead(self):
        for made, how, goal in LEADINGS:
            self.assertEqual(led_ring(ring_of(made), how).made(), goal)
            self.assertEqual(led_ring(how=how, ring=ring_of(made)), ring_of(goal))

    def test_zero_one_sums_and_products_are_kept(self):
        for made, how, goal in LEADINGS:
            ring, other = ring_of(made), ring_of(goal)
            self.assertEqual(repr(led(ring, how, ring.zero())), repr(other.zero()))
            self.assertEqual(repr(led(ring, how, ring.one())), repr(other.one()))
            weights = weights_of(made)[:12]
            for a in weights:
                self.assertIs(other.good(led(ring, how, a)), True)
                for b in weights:
                    left, right = led(ring, how, a), led(ring, how, b)
                    self.assertEqual(led(ring, how, ring.plus(a, b)), other.plus(left, right), (made, how, a, b))
                    self.assertEqual(led(ring, how, ring.times(a, b)), other.times(left, right), (made, how, a, b))

    def test_each_by_its_words(self):
        rows = [
            (("count",), ("some",), 0, False), (("count",), ("some",), 3, True), (("count",), ("some",), "endless", True),
            (("least",), ("turned",), 5, -5), (("least",), ("turned",), -5, 5), (("least",), ("turned",), "none", "none"),
            (("most",), ("turned",), "endless", "endless"), (("most",), ("turned",), 0, 0),
            (("lot", 3), ("bit", 1), 0b010, True), (("lot", 3), ("bit", 1), 0b101, False),
            (("lot", 3), ("bit", 0), 0b101, True), (("lot", 3), ("bit", 2), 0b011, False),
            (("pair", ("truth",), ("count",)), ("first",), (False, 1), False),
            (("pair", ("truth",), ("count",)), ("second",), (False, 1), 1),
            (("rest", 12), ("rest", 4), 11, 3), (("rest", 12), ("rest", 12), 11, 11), (("rest", 12), ("rest", 2), 6, 0),
            (("terms", 2), ("unknowns", ("count",), (3, 5)), (((0, 0), 4), ((1, 2), 2), ((2, 0), 1)), 4 + 2 * 75 + 9),
            (("terms", 2), ("unknowns", ("least",), (3, -5)), (((0, 0), 4), ((1, 2), 2), ((2, 0), 1)), -7),
            (("terms", 1), ("unknowns", ("count",), (0,)), (((0,), 7), ((3,), 1)), 7),
            (("terms", 1), ("unknowns", ("count",), ("endless",)), (((0,), 7),), 7),
        ]
        for made, how, weight, wanted in rows:
            self.assertEqual(repr(led(ring_of(made), how, weight)), repr(wanted), (made, how, weight))
            self.assertEqual(repr(led(weight=weight, how=how, ring=ring_of(made))), repr(wanted))

    def test_great_powers_and_counts(self):
        great = 10 ** 9 + 7
        weight = (((great, 3), 2), ((10 ** 60, 0), 10 ** 50))
        ring = ring_of(("terms", 2))
        rows = [
            (("least",), (2, 7), 2 * great + 21), (("most",), (2, 7), 2 * 10 ** 60), (("count",), (1, 2), 16 + 10 ** 50),
            (("count",), (0, 2), 0), (("count",), ("endless", 0), "endless"), (("truth",), (True, False), True),
            (("rest", 997), (5, 3), (2 * pow(5, great, 997) * 27 + 10 ** 50 * pow(5, 10 ** 60, 997)) % 997),
            (("rest", 1000), (2, 3), (2 * pow(2, great, 1000) * 27 + 10 ** 50 * pow(2, 10 ** 60, 1000)) % 1000),
            (("share",), ((1, 1), (1, 2)), (1, 1)), (("share",), ((0, 1), (1, 2)), (0, 1)),
            (("lot", 3), (5, 3), 5), (THREE, (2, 2), (2 * pow(2, great + 3, 3) + 10 ** 50 * pow(2, 10 ** 60, 3)) % 3),
            (("narrow",), (6, 4), 6), (("pair", ("most",), ("rest", 7)), ((-1, 3), (0, 0)),
                                       (-great, 10 ** 50 * pow(3, 10 ** 60, 7) % 7)),
        ]
        for goal, weights, wanted in rows:
            self.assertEqual(repr(led(ring, ("unknowns", goal, weights), weight)), repr(wanted), goal)
        one = ring_of(("terms", 1))
        self.assertEqual(led(one, ("unknowns", ("terms", 1), ((((2,), 1),),)), (((10 ** 9,), 10 ** 9),)),
                         (((2 * 10 ** 9,), 10 ** 9),))

    def test_no_leadings(self):
        for made, hows in NO_LEADINGS.items():
            ring = ring_of(made)
            for how in hows + ODD + [(thing,) for thing in ODD] + [(Stranger(), 1), ([], 1), ("nothing",)]:
                self.assertEqual(refusal(led_ring, ring, how)[0], "BadLeading", (made, how))
                self.assertEqual(refusal(led, ring, how, ring.one())[0], "BadLeading", (made, how))
                self.assertEqual(refusal(led, ring, how, Stranger())[0], "BadLeading", (made, how))

    def test_order_of_refusals(self):
        for thing in ODD + [("count",), "count"]:
            self.assertEqual(refusal(led_ring, thing, ("some",)), ("BadRing", ("ring",)))
            self.assertEqual(refusal(led_ring, thing, None), ("BadRing", ("ring",)))
            self.assertEqual(refusal(led, thing, None, None), ("BadRing", ("ring",)))
        count = ring_of(("count",))
        for thing in [True, -1, None, "none", [1], Stranger()]:
            self.assertEqual(refusal(led, count, ("some",), thing)[0], "BadWeight")
            self.assertEqual(refusal(led, count, ("turned",), thing)[0], "BadLeading")


if __name__ == "__main__":
    unittest.main()
