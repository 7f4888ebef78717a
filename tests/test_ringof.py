"""How rings are made of tuples and read from texts."""

import itertools
import unittest

from semirail.ringof import ring_in, ring_of
from tests.samples import MADE, ODD, OR_AND, SIX, THREE, refusal

DEEP_THREE = ("pair", ("pair", ("pair", ("truth",), ("count",)), ("least",)), ("rest", 5))
DEEP_FOUR = ("pair", DEEP_THREE, ("truth",))

NO_FORM = [
    (), [], None, "truth", b"truth", 0, True, {}, ["truth"], ("Truth",), ("truth", 1), ("truth", ()), ("count", None),
    (1,), (None,), (("truth",),), ([],), ({},), (True,), ("",), ("nothing",), (b"truth",),
    ("lot",), ("lot", 0), ("lot", 13), ("lot", True), ("lot", "3"), ("lot", None), ("lot", 3, 3), ("lot", [3]),
    ["lot", 3], ("rest",), ("rest", 1), ("rest", 0), ("rest", -2), ("rest", 1001), ("rest", True), ("rest", 2, 2),
    ("terms",), ("terms", 0), ("terms", 5), ("terms", True), ("terms", "1"), ("terms", 10 ** 30),
    ("lots", 3), ("pairs", ("truth",), ("count",)), ("tables", OR_AND[1], OR_AND[2]), ("truth", ("truth",), ("count",)),
    ("pair",), ("pair", ("truth",)), ("pair", ("truth",), ("truth",), ("truth",)), ("pair", "truth", "count"),
    ("pair", ("truth",), ["count"]), ["pair", ("truth",), ("count",)], ("pair", ("truth",), ("lot", 13)),
    ("pair", ("truth",), None), ("pair", (), ("truth",)), DEEP_FOUR, ("pair", ("truth",), DEEP_THREE),
    ("pair", ("truth",), ("pair", ("truth",), ("pair", ("truth",), ("pair", ("truth",), ("truth",))))),
]

SUMS, PRODUCTS = OR_AND[1], OR_AND[2]
NO_TABLES = [
    ("table",), ("table", SUMS), ("table", SUMS, PRODUCTS, PRODUCTS), ["table", SUMS, PRODUCTS],
    ("table", [(0, 1), (1, 1)], PRODUCTS), ("table", ([0, 1], (1, 1)), PRODUCTS), ("table", SUMS, [(0, 0), (0, 1)]),
    ("table", SUMS, ((0, 0), [0, 1])), ("table", ((0,),), ((0,),)), ("table", (), ()), ("table", None, PRODUCTS),
    ("table", SUMS, None), ("table", SUMS, 3), ("table", "ab", "cd"), ("table", SUMS, THREE[2]),
    ("table", THREE[1], PRODUCTS), ("table", ((0, 1), (1, 2)), PRODUCTS), ("table", ((0, 1), (1, -1)), PRODUCTS),
    ("table", SUMS, ((0, 0), (0, 2))), ("table", ((0, True), (1, 1)), PRODUCTS), ("table", SUMS, ((0, 0), (False, 1))),
    ("table", ((0, 1), (1,)), PRODUCTS), ("table", ((0, 1), (1, 1, 1)), PRODUCTS), ("table", SUMS, ((0, 0),)),
    ("table", SUMS, ((0, 0), (0, 1), (0, 1))), ("table", ((0, 1), 1), PRODUCTS), ("table", (("0", "1"), (1, 1)), SUMS),
    ("table", ((0, 1), (1, None)), PRODUCTS), ("table", tuple((0,) * 7 for _ in range(7)), ((0,) * 7,) * 7),
]

# Tables that break a rule first, with the least things that do.
BROKEN = [
    (("table", ((0, 0), (1, 1)), PRODUCTS), "sum turned", (0, 1)),
    (("table", ((0, 1, 2), (1, 2, 2), (2, 1, 2)), THREE[2]), "sum turned", (1, 2)),
    (("table", ((1, 0), (0, 0)), PRODUCTS), "sum joined", (0, 0, 1)),
    (("table", ((0, 1, 2), (1, 2, 0), (2, 0, 2)), THREE[2]), "sum joined", (1, 1, 2)),
    (("table", ((0, 0), (0, 0)), PRODUCTS), "zero", (1,)),
    (("table", ((0, 0), (0, 1)), PRODUCTS), "zero", (1,)),
    (("table", SUMS, ((0, 0), (1, 1))), "product turned", (0, 1)),
    (("table", THREE[1], ((0, 0, 0), (0, 1, 2), (0, 0, 1))), "product turned", (1, 2)),
    (("table", SUMS, ((1, 0), (0, 0))), "product joined", (0, 0, 1)),
    (("table", THREE[1], ((0, 0, 0), (0, 2, 1), (0, 1, 1))), "product joined", (1, 1, 2)),
    (("table", SUMS, ((0, 0), (0, 0))), "one", (1,)),
    (("table", THREE[1], ((0, 0, 0), (0, 1, 1), (0, 1, 1))), "one", (2,)),
    (("table", SUMS, ((1, 0), (0, 1))), "nought", (0,)),
    (("table", THREE[1], ((0, 0, 2), (0, 1, 2), (2, 2, 2))), "nought", (2,)),
    (("table", THREE[1], ((0, 0, 0), (0, 1, 2), (0, 2, 2))), "spread", (2, 1, 1)),
]


class RingOfTest(unittest.TestCase):
    def test_every_kind_and_bound(self):
        for made in MADE + [("lot", 1), ("lot", 12), ("rest", 2), ("rest", 1000), ("terms", 1), ("terms", 4), OR_AND,
                            SIX, DEEP_THREE, ("pair", DEEP_THREE[1], DEEP_THREE[1])]:
            self.assertEqual(ring_of(made=made).made(), made)

    def test_what_has_no_form(self):
        for thing in NO_FORM + NO_TABLES + [thing for thing in ODD if thing != ("truth",)]:
            self.assertEqual(refusal(ring_of, thing), ("BadRing", ("form",)), thing)
            self.assertEqual(refusal(ring_of, ("pair", ("count",), thing)), ("BadRing", ("form",)), thing)
            self.assertEqual(refusal(ring_of, ("pair", thing, ("count",))), ("BadRing", ("form",)), thing)

    def test_pairs_that_share_their_parts_endlessly_deep(self):
        made = ("truth",)
        for _ in range(95):
            made = ("pair", made, made)
        self.assertEqual(refusal(ring_of, made), ("BadRing", ("form",)))

    def test_broken_rules(self):
        for made, rule, things in BROKEN:
            self.assertEqual(refusal(ring_of, made), ("BadTable", (rule, things)), made)
            self.assertEqual(first_broken(made[1], made[2]), (rule, things))

    def test_all_tables_of_two_things(self):
        tables = list(itertools.product(itertools.product(range(2), repeat=2), repeat=2))
        kept = 0
        for sums, products in itertools.product(tables, repeat=2):
            broken = first_broken(sums, products)
            name, told = refusal(ring_of, ("table", sums, products))
            kept += broken is None
            self.assertEqual((name, told if name else None), ("BadTable", broken) if broken else (None, None))
        self.assertEqual(kept, 2)

    def test_tables_in_pairs(self):
        first, second = BROKEN[6], BROKEN[0]
        refused = ("BadTable", first[1:])
        self.assertEqual(refusal(ring_of, ("pair", first[0], second[0])), refused)
        self.assertEqual(refusal(ring_of, ("pair", second[0], first[0])), ("BadTable", second[1:]))
        self.assertEqual(refusal(ring_of, ("pair", OR_AND, first[0])), refused)
        self.assertEqual(refusal(ring_of, ("pair", ("pair", ("truth",), first[0]), second[0])), refused)
        self.assertEqual(refusal(ring_of, ("pair", ("pair", ("truth",), OR_AND), first[0])), refused)
        for thing in [("lot", 13), NO_TABLES[0], DEEP_FOUR, None]:
            self.assertEqual(refusal(ring_of, ("pair", first[0], thing)), ("BadRing", ("form",)))
            self.assertEqual(refusal(ring_of, ("pair", thing, first[0])), ("BadRing", ("form",)))


def first_broken(sums, products):
    """The first rule in the document's order that some things break, and the least such things."""
    def joined(table):
        return lambda a, b, c: table[table[a][b]][c] == table[a][table[b][c]]
    rules = [
        ("sum turned", 2, lambda a, b: sums[a][b] == sums[b][a]), ("sum joined", 3, joined(sums)),
        ("zero", 1, lambda a: sums[0][a] == a), ("product turned", 2, lambda a, b: products[a][b] == products[b][a]),
        ("product joined", 3, joined(products)), ("one", 1, lambda a: products[1][a] == a),
        ("nought", 1, lambda a: products[0][a] == 0),
        ("spread", 3, lambda a, b, c: products[a][sums[b][c]] == sums[products[a][b]][products[a][c]]),
    ]
    for rule, many, holds in rules:
        for things in itertools.product(range(len(sums)), repeat=many):
            if not holds(*things):
                return rule, things
    return None


class RingInTest(unittest.TestCase):
    def test_each_ring_is_read_from_its_text(self):
        for made in MADE + [DEEP_THREE]:
            ring = ring_of(made)
            self.assertEqual(ring_in(str(ring)), ring)
            self.assertEqual(ring_in(text=str(ring)).made(), made)
        self.assertEqual(ring_in("pair lot 3 pair truth rest 7").made(),
                         ("pair", ("lot", 3), ("pair", ("truth",), ("rest", 7))))

    def test_bent_texts(self):
        for made in MADE:
            text = str(ring_of(made))
            words = text.split(" ")
            bent = ["", text + " ", " " + text, text + "\n", "\n" + text, text + " truth", "truth " + text, text + " 0",
                    text.upper(), text + "\n" + text, text.replace(" ", "  ") + " ", text[1:], "x" + text]
            bent += [" ".join(words[:at] + ["x"] + words[at:]) for at in range(len(words) + 1)]
            bent += [" ".join(words[:at] + words[at + 1:]) for at in range(len(words)) if len(words) < 20]
            for other in bent:
                self.assertEqual(refusal(ring_in, other), ("BadLine", (1,)), other)

    def test_texts_that_write_none(self):
        for text in ["lot", "lot 0", "lot 13", "lot 03", "lot +3", "lot -3", "lot three", "rest 1", "rest 1001", "terms 5",
                     "terms 0", "pair", "pair truth", "pair truth lot", "truth truth", "table", "table 2", "table 1 0 0",
                     "table 7 " + " ".join(["0"] * 98), "table 99999999999999 0", "table 2 0 1 1 1 0 0 0",
                     "table 2 0 1 1 1 0 0 0 1 0", "table 2 0 1 1 2 0 0 0 1", "table 2 0 1 1 01 0 0 0 1",
                     "table 02 0 1 1 1 0 0 0 1", "table 2\n0 1\n1 1\n0 0\n0 1", "table -2 0", "Truth", "ring truth",
                     "truth\ttruth", "pair pair pair pair truth truth truth truth truth", "pair " * 4000 + "truth",
                     "pair table 2 0 0 1 1 0 0 0 1 lot", "pair table 2 0 0 1 1 0 0 0 1 table 2 0 1"]:
            self.assertEqual(refusal(ring_in, text), ("BadLine", (1,)), text)

    def test_broken_tables(self):
        for made, rule, things in BROKEN:
            numbers = " ".join(str(place) for table in made[1:] for row in table for place in row)
            text = f"table {len(made[1])} {numbers}"
            self.assertEqual(refusal(ring_in, text), ("BadTable", (rule, things)))
            self.assertEqual(refusal(ring_in, f"pair truth pair {text} count"), ("BadTable", (rule, things)))
            self.assertEqual(refusal(ring_in, f"{text} 0"), ("BadLine", (1,)))
            self.assertEqual(refusal(ring_in, f"pair {text} lot 13"), ("BadLine", (1,)))

    def test_what_is_no_text(self):
        for thing in ODD:
            if not isinstance(thing, str):
                self.assertEqual(refusal(ring_in, thing), ("BadLine", (0,)))


if __name__ == "__main__":
    unittest.main()
