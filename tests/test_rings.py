"""Rings: weights, sums, products, stars, and how weights are written."""

import unittest
from fractions import Fraction

from semirail.ringof import ring_of
from semirail.rings import Ring
from tests.samples import MADE, ODD, OR_AND, THREE, Stranger, closed, few, refusal, rings, weights_of

ENDLESS = "endless"

# For each ring rows of A, B, A + B, A times B.
RECKONED = {
    ("truth",): [(False, False, False, False), (False, True, True, False), (True, True, True, True)],
    ("count",): [(0, 5, 5, 0), (2, 3, 5, 6), (ENDLESS, 0, ENDLESS, 0), (ENDLESS, 4, ENDLESS, ENDLESS),
                 (ENDLESS, ENDLESS, ENDLESS, ENDLESS), (1, 10 ** 50, 10 ** 50 + 1, 10 ** 50)],
    ("least",): [(2, 5, 2, 7), (-3, 4, -3, 1), ("none", 4, 4, "none"), ("none", "none", "none", "none"),
                 (ENDLESS, -9, ENDLESS, ENDLESS), (ENDLESS, "none", ENDLESS, "none"),
                 (ENDLESS, ENDLESS, ENDLESS, ENDLESS), (0, -4, -4, -4)],
    ("most",): [(2, 5, 5, 7), (-3, 4, 4, 1), ("none", -4, -4, "none"), ("none", "none", "none", "none"),
                (ENDLESS, 9, ENDLESS, ENDLESS), (ENDLESS, "none", ENDLESS, "none"),
                (ENDLESS, ENDLESS, ENDLESS, ENDLESS), (0, -4, 0, -4)],
    ("narrow",): [(2, 5, 5, 2), (0, 3, 3, 0), (ENDLESS, 7, ENDLESS, 7), (ENDLESS, ENDLESS, ENDLESS, ENDLESS),
                  (ENDLESS, 0, ENDLESS, 0)],
    ("share",): [((1, 2), (1, 3), (1, 2), (1, 6)), ((2, 3), (3, 4), (3, 4), (1, 2)), ((0, 1), (1, 7), (1, 7), (0, 1)),
                 ((1, 1), (5, 9), (1, 1), (5, 9)), ((499, 999), (500, 1001), (500, 1001), (499 * 500, 999 * 1001))],
    ("lot", 4): [(0b0011, 0b0101, 0b0111, 0b0001), (0, 15, 15, 0), (8, 1, 9, 0)],
    ("rest", 6): [(4, 5, 3, 2), (3, 2, 5, 0), (0, 5, 5, 0), (3, 3, 0, 3)],
    OR_AND: [(0, 1, 1, 0), (1, 1, 1, 1), (0, 0, 0, 0)],
    THREE: [(1, 2, 0, 2), (2, 2, 1, 1), (0, 2, 2, 0)],
    ("pair", ("count",), ("least",)): [((2, 5), (3, -1), (5, -1), (6, 4)), ((0, "none"), (9, 9), (9, 9), (0, "none"))],
    ("terms", 1): [((((0,), 1),), (((1,), 2),), (((0,), 1), ((1,), 2)), (((1,), 2),)),
                   ((((0,), 1), ((1,), 1)), (((0,), 1), ((1,), 1)), (((0,), 2), ((1,), 2)),
                    (((0,), 1), ((1,), 2), ((2,), 1))),
                   ((), (((3,), 5),), (((3,), 5),), ())],
    ("terms", 2): [((((0, 1), 1), ((1, 0), 1)), (((0, 1), 2), ((1, 0), 3)), (((0, 1), 3), ((1, 0), 4)),
                    (((0, 2), 2), ((1, 1), 5), ((2, 0), 3)))],
}

STARS = {
    ("truth",): [(False, True), (True, True)],
    ("count",): [(0, 1), (1, ENDLESS), (7, ENDLESS), (ENDLESS, ENDLESS)],
    ("least",): [("none", 0), (0, 0), (5, 0), (-1, ENDLESS), (ENDLESS, ENDLESS)],
    ("most",): [("none", 0), (0, 0), (-5, 0), (1, ENDLESS), (ENDLESS, ENDLESS)],
    ("narrow",): [(0, ENDLESS), (5, ENDLESS), (ENDLESS, ENDLESS)],
    ("share",): [((0, 1), (1, 1)), ((2, 3), (1, 1)), ((1, 1), (1, 1))],
    ("lot", 3): [(0, 7), (5, 7), (7, 7)],
    ("rest", 2): [(0, 1), (1, None)],
    ("rest", 6): [(0, 1), (1, None), (2, None), (3, None), (4, None), (5, None)],
    ("rest", 8): [(0, 1), (1, None), (2, 7), (4, 5), (6, 3), (7, None)],
    ("rest", 1000): [(0, 1), (10, 111), (30, 931), (2, None), (999, None)],
    OR_AND: [(0, 1), (1, 1)],
    THREE: [(0, 1), (1, None), (2, None)],
    ("terms", 2): [((), (((0, 0), 1),)), ((((0, 0), 1),), None), ((((1, 0), 1),), None)],
    ("pair", ("count",), ("least",)): [((0, 3), (1, 0)), ((2, -3), (ENDLESS, ENDLESS)), ((0, -3), (1, ENDLESS))],
    ("pair", ("count",), ("rest", 8)): [((0, 2), (1, 7)), ((ENDLESS, 2), (ENDLESS, 7)), ((1, 2), None), ((0, 1), None)],
    ("pair", ("rest", 8), ("least",)): [((2, 3), (7, 0)), ((2, ENDLESS), (7, ENDLESS)), ((2, -1), None)],
    ("pair", ("most",), OR_AND): [((-2, 1), (0, 1)), ((2, 1), None), ((ENDLESS, 0), (ENDLESS, 1))],
    ("pair", ("pair", ("count",), ("truth",)), ("terms", 1)): [(((0, True), ()), ((1, True), (((0,), 1),))),
                                                               (((3, True), ()), None)],
}

WRITTEN = {
    ("truth",): [(False, "no"), (True, "yes")],
    ("count",): [(0, "0"), (12, "12"), (ENDLESS, "endless")],
    ("least",): [(0, "0"), (-12, "-12"), ("none", "none"), (ENDLESS, "endless")],
    ("most",): [(3, "3"), (-3, "-3"), ("none", "none"), (ENDLESS, "endless")],
    ("narrow",): [(3, "3"), (ENDLESS, "endless")],
    ("share",): [((0, 1), "0/1"), ((1, 1), "1/1"), ((12, 35), "12/35")],
    ("lot", 4): [(0, "0000"), (1, "1000"), (10, "0101"), (15, "1111")],
    ("rest", 12): [(0, "0"), (11, "11")],
    THREE: [(0, "0"), (2, "2")],
    ("pair", ("truth",), ("least",)): [((True, -1), "<yes,-1>"), ((False, "none"), "<no,none>")],
    ("pair", ("pair", ("count",), ("share",)), ("terms", 1)): [(((4, (1, 2)), ()), "<<4,1/2>,0>"),
                                                               (((0, (0, 1)), (((2,), 3),)), "<<0,0/1>,2:3>")],
    ("terms", 1): [((), "0"), ((((0,), 1),), "0:1"), ((((0,), 12), ((10,), 3)), "0:12+10:3")],
    ("terms", 3): [((((0, 1, 0), 2), ((0, 10, 0), 1), ((3, 0, 0), 7)), "0.1.0:2+0.10.0:1+3.0.0:7")],
}

NO_WEIGHTS = {
    ("truth",): [0, 1, "yes", "no", None],
    ("count",): [-1, True, False, "none", "1", "Endless", (1,)],
    ("least",): [True, False, "nothing", "", "0", None, [0]],
    ("most",): [True, False, "", "0", None, (0,)],
    ("narrow",): [-1, True, "none", None],
    ("share",): [[0, 1], (0, 2), (2, 4), (3, 2), (-1, 2), (1, -2), (1, 0), (0, 0), (True, 1), (False, 1), (1, 2, 3),
                 (1,), 0, 1, "1/2", ("1", "2"), (-1, -2)],
    ("lot", 3): [-1, 8, True, False, "000", None, [1]],
    ("rest", 6): [-1, 6, True, False, "1", None],
    THREE: [-1, 3, True, False, "1", None],
    ("pair", ("count",), ("truth",)): [[1, True], (1,), (1, True, True), (1, 1), (True, True), (-1, True), 1, None, ()],
    ("terms", 1): [[], None, 0, "0", (((0,), 0),), (((0,), -1),), (((0,), True),), (((True,), 1),), (((-1,), 1),),
                   (((0, 0), 1),), ((((),), 1),), (([0], 1),), ([(0,), 1],), (((1,), 1), ((0,), 1)),
                   (((1,), 1), ((1,), 2)), ((0,), 1), (((0,), 1, 1),), ((0, 1),), (((0,), "endless"),), [((0,), 1)]],
    ("terms", 2): [(((0,), 1),), (((0, 0, 0), 1),), (((0, "1"), 1),), (((1, 0), 1), ((0, 9), 1))],
}

NO_WORDS = {
    ("truth",): ["", "Yes", "true", "1", "yes ", "yes\n"],
    ("count",): ["-1", "01", "+1", "", "none", "1 ", "1.0", "-0", "Endless", "endless "],
    ("least",): ["-0", "00", "--1", "", "non"],
    ("most",): ["-0", "007", "- 1"],
    ("narrow",): ["-1", "none", "01"],
    ("share",): ["1", "1/", "/1", "2/4", "0/2", "3/2", "-1/2", "1/2/3", "1 /2", "01/2", "", "0/0", "1/-2"],
    ("lot", 3): ["", "00", "0000", "002", "0 0", "yes", "00-"],
    ("rest", 6): ["6", "-1", "01", ""],
    THREE: ["3", "-1", "", "00"],
    ("pair", ("truth",), ("least",)): ["", "<>", "<yes>", "<yes,>", "<,1>", "yes,1", "<yes,1", "yes,1>", "<yes,1>>",
                                       "<<yes,1>", "<yes,1,2>", "<1,yes>", "<yes, 1>", "<yes;1>", ">yes,1<", "<", ">",
                                       "<yes,01>", ",", "<,"],
    ("pair", ("pair", ("count",), ("share",)), ("terms", 1)): ["<4,<1/2,0>>", "<<4,1/2>0>", "<4,1/2,0>", "<<4,1/2>,>"],
    ("terms", 1): ["", "0:0", "0:-1", "1", "00", "0:1+", "+0:1", "1:1+0:1", "0:1+0:2", "0.0:1", "0:1:1", "-1:1",
                   "0:01", "00:1", ":1", "0:", ".:1", "0:endless", "0 +1:1"],
    ("terms", 2): ["0:1", "0.0.0:1", "0.:1", ".0:1", "0.0:1+0", "1.0:1+0.9:1"],
}


class MadeTest(unittest.TestCase):
    def test_made_zero_one_and_kinds(self):
        for made, ring in zip(MADE, rings()):
            self.assertIsInstance(ring, Ring)
            self.assertEqual(ring.made(), made)
            self.assertIs(ring.is_closed(), closed(made))
            self.assertIs(ring.is_few(), few(made))
            self.assertIs(ring.good(ring.zero()), True)
            self.assertIs(ring.good(ring.one()), True)

    def test_zero_and_one_by_kind(self):
        told = {made: (ring_of(made).zero(), ring_of(made).one()) for made in MADE}
        self.assertEqual(repr(told[("truth",)]), "(False, True)")
        self.assertEqual(told[("count",)], (0, 1))
        self.assertEqual(told[("least",)], ("none", 0))
        self.assertEqual(told[("most",)], ("none", 0))
        self.assertEqual(told[("narrow",)], (0, "endless"))
        self.assertEqual(told[("share",)], ((0, 1), (1, 1)))
        self.assertEqual(told[("lot", 1)], (0, 1))
        self.assertEqual(told[("lot", 12)], (0, 4095))
        self.assertEqual(repr(told[("rest", 1000)]), "(0, 1)")
        self.assertEqual(repr(told[THREE]), "(0, 1)")
        self.assertEqual(told[("terms", 4)], ((), (((0, 0, 0, 0), 1),)))
        self.assertEqual(told[("pair", ("least",), ("most",))], (("none", "none"), (0, 0)))

    def test_alike_and_texts(self):
        for at, (made, ring) in enumerate(zip(MADE, rings())):
            for place, other in enumerate(rings()):
                self.assertIs(ring == other, at == place)
                self.assertIs(ring != other, at != place)
            self.assertEqual(repr(ring), f"Ring({ring})")
            for thing in [made, str(ring), None, Stranger(), 0]:
                self.assertIs(ring == thing, False)
        self.assertEqual(str(ring_of(("lot", 3))), "lot 3")
        self.assertEqual(str(ring_of(OR_AND)), "table 2 0 1 1 1 0 0 0 1")
        self.assertEqual(str(ring_of(THREE)), "table 3 0 1 2 1 2 0 2 0 1 0 0 0 0 1 2 0 2 1")
        self.assertEqual(str(ring_of(("pair", ("rest", 6), ("pair", ("share",), ("terms", 2))))),
                         "pair rest 6 pair share terms 2")
        self.assertEqual(repr(ring_of(("narrow",))), "Ring(narrow)")


class WeightsTest(unittest.TestCase):
    def test_good_of_weights(self):
        for made, ring in zip(MADE, rings()):
            for weight in weights_of(made):
                self.assertIs(ring.good(weight), True, (made, weight))

    def test_good_of_things_near_them(self):
        for made, things in NO_WEIGHTS.items():
            for thing in things:
                self.assertIs(ring_of(made).good(thing), False, (made, thing))

    def test_good_of_odd_things(self):
        weights = {
            "truth": [True, False], "count": [0, 1, 10 ** 40, "endless"], "narrow": [0, 1, 10 ** 40, "endless"],
            "least": [0, 1, -1, 10 ** 40, "endless", "none"], "most": [0, 1, -1, 10 ** 40, "endless", "none"],
            "share": [(0, 1)], "lot": [0, 1], "rest": [0, 1], "table": [0, 1], "terms": [()], "pair": [],
        }
        for made, ring in zip(MADE, rings()):
            # A tuple of two is a weight of some pairs: these are in the test ahead.
            for thing in [thing for thing in ODD if made[0] != "pair" or not isinstance(thing, tuple)]:
                wanted = any(repr(thing) == repr(weight) for weight in weights[made[0]])
                self.assertIs(ring.good(thing=thing), wanted, (made, thing))

    def test_each_method_refuses_what_is_no_weight(self):
        for made, things in NO_WEIGHTS.items():
            ring = ring_of(made)
            one = ring.one()
            for thing in things + [Stranger()]:
                calls = [(ring.plus, thing, one), (ring.plus, one, thing), (ring.times, thing, one),
                         (ring.times, one, thing), (ring.star, thing), (ring.many, thing), (ring.power, thing),
                         (ring.many, thing, 3), (ring.power, thing, 3), (ring.many, thing, -1),
                         (ring.power, thing, None), (ring.total, [one, thing]), (ring.product, [thing, one]),
                         (ring.written, thing)]
                for call, *args in calls:
                    self.assertEqual(refusal(call, *args)[0], "BadWeight", (made, call, args))


class ReckonedTest(unittest.TestCase):
    def test_sums_and_products(self):
        for made, rows in RECKONED.items():
            ring = ring_of(made)
            for a, b, total, product in rows:
                self.assertEqual(repr(ring.plus(a, b)), repr(total), (made, a, b))
                self.assertEqual(repr(ring.plus(b, a)), repr(total), (made, a, b))
                self.assertEqual(repr(ring.times(a, b)), repr(product), (made, a, b))
                self.assertEqual(repr(ring.times(b, a)), repr(product), (made, a, b))
                self.assertEqual(repr(ring.plus(b=b, a=a)), repr(total))
                self.assertEqual(repr(ring.times(b=b, a=a)), repr(product))

    def test_all_rests_and_lots(self):
        rest, lot = ring_of(("rest", 7)), ring_of(("lot", 3))
        for a in range(7):
            for b in range(7):
                self.assertEqual((rest.plus(a, b), rest.times(a, b)), ((a + b) % 7, a * b % 7))
                self.assertEqual((lot.plus(a, b), lot.times(a, b)), (a | b, a & b))

    def test_shares_are_fractions(self):
        ring = ring_of(("share",))
        shares = sorted({Fraction(top, bottom) for bottom in range(1, 8) for top in range(bottom + 1)})
        for one in shares:
            for other in shares:
                a, b = one.as_integer_ratio(), other.as_integer_ratio()
                self.assertEqual(ring.plus(a, b), max(one, other).as_integer_ratio())
                self.assertEqual(ring.times(a, b), (one * other).as_integer_ratio())

    def test_the_laws_of_semirings(self):
        for made, ring in zip(MADE, rings()):
            weights = weights_of(made)[:9]
            for a in weights:
                self.assertEqual(ring.plus(a, ring.zero()), a)
                self.assertEqual(ring.times(a, ring.one()), a)
                self.assertEqual(ring.times(a, ring.zero()), ring.zero())
                for b in weights:
                    self.assertEqual(ring.plus(a, b), ring.plus(b, a))
                    self.assertEqual(ring.times(a, b), ring.times(b, a))
                    self.assertIs(ring.good(ring.plus(a, b)), True)
                    self.assertIs(ring.good(ring.times(a, b)), True)
                    for c in weights[:5]:
                        self.assertEqual(ring.plus(ring.plus(a, b), c), ring.plus(a, ring.plus(b, c)))
                        self.assertEqual(ring.times(ring.times(a, b), c), ring.times(a, ring.times(b, c)))
                        self.assertEqual(ring.times(a, ring.plus(b, c)), ring.plus(ring.times(a, b), ring.times(a, c)))

    def test_stars(self):
        for made, rows in STARS.items():
            ring = ring_of(made)
            for weight, star in rows:
                wanted = ("NoStar", None) if star is None else (None, repr(star))
                name, told = refusal(ring.star, a=weight)
                self.assertEqual((name, None if name else repr(told)), wanted, (made, weight))

    def test_star_just_where_the_sums_stay(self):
        for made, ring in zip(MADE, rings()):
            if not closed(made):
                for weight in weights_of(made):
                    self.assertEqual(refusal(ring.star, weight)[0] is None, stays(ring, weight) is not None)
                    if stays(ring, weight) is not None:
                        self.assertEqual(ring.star(weight), stays(ring, weight))

    def test_star_solves_its_equation(self):
        for made, ring in zip(MADE, rings()):
            for weight in weights_of(made):
                if refusal(ring.star, weight)[0] is None:
                    star = ring.star(weight)
                    self.assertEqual(star, ring.plus(ring.one(), ring.times(weight, star)))


def stays(ring, weight):
    """The sum at which ONE, ONE + A, .. stays within as many steps as count here, or None."""
    told = ring.one()
    for _ in range(12 if ring.made()[0] == "terms" or "terms" in str(ring) else 1001):
        then = ring.plus(ring.one(), ring.times(weight, told))
        if then == told:
            return told
        told = then
    return None


class ManyTest(unittest.TestCase):
    def test_many_and_power(self):
        for made, ring in zip(MADE, rings()):
            for weight in weights_of(made)[:8]:
                total, product = ring.zero(), ring.one()
                for count in range(6):
                    self.assertEqual(ring.many(weight, count), total, (made, weight, count))
                    self.assertEqual(ring.power(weight, count), product, (made, weight, count))
                    total, product = ring.plus(total, weight), ring.times(product, weight)
                self.assertEqual(ring.many(weight), ring.plus(weight, weight))
                self.assertEqual(ring.power(a=weight), ring.times(weight, weight))
                self.assertEqual(ring.many(count=60, a=weight), ring.total([weight] * 60))
                self.assertEqual(ring.power(weight, 60), ring.product([weight] * 60))

    def test_many_and_power_refuse_counts(self):
        for ring in rings():
            for count in [-1, 61, 10 ** 30, True, False, None, "2", (2,), [2], Stranger()]:
                self.assertEqual(refusal(ring.many, ring.one(), count)[0], "BadNumber")
                self.assertEqual(refusal(ring.power, ring.one(), count)[0], "BadNumber")
                self.assertEqual(refusal(ring.many, Stranger(), count)[0], "BadWeight")
                self.assertEqual(refusal(ring.power, Stranger(), count)[0], "BadWeight")

    def test_total_and_product(self):
        for made, ring in zip(MADE, rings()):
            self.assertEqual(ring.total([]), ring.zero())
            self.assertEqual(ring.product(weights=[]), ring.one())
            weights = weights_of(made)[:4]
            kept = list(weights)
            total, product = ring.zero(), ring.one()
            for weight in weights:
                total, product = ring.plus(total, weight), ring.times(product, weight)
            self.assertEqual(ring.total(weights=weights), total)
            self.assertEqual(ring.product(weights), product)
            self.assertEqual(weights, kept)
            for thing in [(), (ring.one(),), None, "", {}, ring.one(), 3, Stranger(), [Stranger()], [[ring.one()]]]:
                self.assertEqual(refusal(ring.total, thing)[0], "BadWeight")
                self.assertEqual(refusal(ring.product, thing)[0], "BadWeight")


class WrittenTest(unittest.TestCase):
    def test_written(self):
        for made, rows in WRITTEN.items():
            ring = ring_of(made)
            for weight, word in rows:
                self.assertEqual(ring.written(a=weight), word)
                self.assertEqual(repr(ring.worth(word=word)), repr(weight))

    def test_worth_gives_each_weight_back(self):
        for made, ring in zip(MADE, rings()):
            for weight in weights_of(made):
                self.assertEqual(repr(ring.worth(ring.written(weight))), repr(weight))

    def test_worth_of_other_words(self):
        for made, words in NO_WORDS.items():
            for word in words:
                self.assertIsNone(ring_of(made).worth(word), (made, word))

    def test_worth_of_bent_words(self):
        for made, ring in zip(MADE, rings()):
            for word in [ring.written(weight) for weight in weights_of(made)[:6]]:
                for at in range(len(word)):
                    bent = [word[:at] + word[at + 1:], word[:at] + " " + word[at:], word[:at] + "x" + word[at:],
                            word[:at] + word[at] + word[at:], word + "\n"]
                    for other in bent:
                        told = ring.worth(other)
                        self.assertTrue(told is None or ring.written(told) == other, (made, other))

    def test_worth_of_what_is_no_text(self):
        for ring in rings():
            for thing in ODD:
                if not isinstance(thing, str):
                    self.assertIsNone(ring.worth(thing))

    def test_long_numbers(self):
        number = 10 ** 3999 - 7
        self.assertEqual(ring_of(("least",)).worth("-" + str(number)), -number)
        self.assertEqual(ring_of(("count",)).written(number), str(number))


if __name__ == "__main__":
    unittest.main()
