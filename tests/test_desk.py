"""A desk: each line with each of its answers, in groups and out of them."""

import unittest

from semirail.desk import Desk
from semirail.reading import room_in
from semirail.ringof import ring_of
from semirail.texts import expression_text
from tests.readers import read_expression, words_in
from tests.rooms import NAMES, Model, named_expression, rests_on
from tests.samples import ODD, Numbers, refusal, weights_of
from tests.test_texts import words_of

TRUTH = "ring truth\nletters ab"
REST = "ring rest 6\nletters ab"
COUNT = "ring count\nletters ab\nput x letter a\nput y added name x name x"
BAD = ["", " ", "\n", "put", "put x", "put x letter", "put x letter c", "put X one", "put x one one", "put  x one", "put x one ",
       " put x one", "put x one\n", "\nput x one", "puts x one", "Put x one", "put abcdefghi one", "put x name X", "put x scaled -1 one",
       "put x added one", "anew", "anew x", "anew x one one", "anew 1 one", "drop", "drop x y", "drop X", "drop x\n", "undo x", "undo ",
       "redo x", "weight", "weight x", "weight x c", "weight x aB", "weight x - -", "weight X a", "weight x " + "a" * 61, "weight x  a",
       "alike", "alike x", "alike x x x", "alike x X", "least", "least x x", "least 3", "rests", "rests x x", "rests -", "names x",
       "room x", "log x", "begin x", "end x", "leave x", "together", "none", "done", "x", "name x", "ring truth", "letters ab", "-",
       "put x " + "turned " * 100 + "one", "put x " + "added one " * 150 + "one", "put x letter a\tb", "names\nnames"]


def said(desk, *lines):
    """The answers to some lines."""
    return [desk.say(line) for line in lines]


class LinesTest(unittest.TestCase):
    def test_deeds(self):
        desk = Desk(TRUTH)
        self.assertEqual(said(desk, "put x letter a", "put y followed name x name x", "put x one", "anew x added name x one",
                              "anew x letter b", "anew z name y", "drop y", "drop q", "anew y name z", "drop z", "put u name q"),
                         ["done", "done", "taken", "round", "done", "done", "in use", "no name", "round", "done", "no name"])
        self.assertEqual(said(desk, "undo", "undo", "redo", "redo", "redo", "undo", "undo", "undo", "undo", "undo", "undo"),
                         ["done", "done", "done", "done", "nothing", "done", "done", "done", "done", "done", "nothing"])
        self.assertEqual(said(desk, "redo", "names", "put x letter b", "anew q name q", "anew put name x", "names"),
                         ["done", "x", "taken", "round", "done", "x put"])

    def test_questions(self):
        desk = Desk(COUNT)
        self.assertEqual(said(desk, "weight y a", "weight y -", "weight x ab", "weight q a", "weight q c", "rests y", "rests x",
                              "rests q", "names", "least x", "alike x y", "alike q y", "alike x q", "least q"),
                         ["2", "0", "0", "no name", "bad line", "x", "none", "no name", "x y", "not few", "not few", "no name",
                          "no name", "no name"])
        self.assertEqual(desk.say("room"), COUNT)
        self.assertEqual(desk.say("log"), "none")
        empty = Desk(TRUTH)
        self.assertEqual(said(empty, "names", "log", "room", "undo", "redo", "log"), ["none", "none", TRUTH, "nothing", "nothing",
                         "begin undo -\nend undo - refused\nbegin redo -\nend redo - refused"])
        desk = Desk(TRUTH + "\nput x repeated letter a\nput y followed name x name x\nput z added name y letter b\nput u zero")
        self.assertEqual(said(desk, "alike x y", "alike y z", "alike x u", "least x", "least z", "least u", "weight x aaa",
                              "weight x ab", "rests z", "alike u u"),
                         ["yes", "no b", "no -", "2", "4", "1", "yes", "no", "x y", "yes"])
        self.assertEqual(Desk(TRUTH + "\nput x letter a").say("weight x " + "a" * 60), "no")

    def test_weights_are_written(self):
        for made in [("share",), ("pair", ("count",), ("lot", 2)), ("terms", 2), ("least",)]:
            ring = ring_of(made)
            for worth in weights_of(made):
                desk = Desk(f"ring {ring}\nletters xy")
                self.assertEqual(said(desk, f"put a scaled {ring.written(worth)} letter x", "weight a x", "weight a -"),
                                 ["done", ring.written(worth), ring.written(ring.zero())])

    def test_refusals(self):
        desk = Desk(REST)
        self.assertEqual(said(desk, "put x repeated scaled 2 one", "put x " + "turned " * 60 + "one",
                              "put x " + "turned " * 59 + "one", "put y turned name x", "put y repeated name q",
                              "anew x repeated name x", "put y name x", "put q added name y name y",
                              "anew x scaled 2 one", "put z repeated name x"),
                         ["no star", "too deep", "done", "too deep", "no name", "round", "done", "too deep", "done", "no star"])
        great = Desk("ring rest 1000\nletters a\nput x followed repeated letter a followed letter a repeated letter a\nput y one")
        self.assertEqual(said(great, "least x", "alike x x", "alike x y", "least y", "weight x aaa"),
                         ["too many", "too many", "too many", "2", "3"])

    def test_bad_lines(self):
        for group in (False, True):
            desk = Desk(COUNT)
            if group:
                desk.say("begin")
            for line in BAD + [thing for thing in ODD if not isinstance(thing, str)] + [["names"], b"names", ("names",)]:
                self.assertEqual(desk.say(line), "bad line", line)
            self.assertEqual(said(desk, "end" if group else "names"), ["done" if group else "x y"])
            self.assertEqual(desk.say("log"), "begin together -\nend together - done" if group else "none")

    def test_forms_go_ahead(self):
        desk = Desk(TRUTH)
        self.assertEqual(said(desk, "put q letter c", "weight q c", "alike q Q", "drop Q", "put q name q", "weight q a"),
                         ["bad line", "bad line", "bad line", "bad line", "round", "no name"])


class GroupsTest(unittest.TestCase):
    def test_kept_and_done(self):
        desk = Desk(TRUTH)
        self.assertEqual(said(desk, "begin", "put x letter a", "put y name x", "drop y", "anew x letter b", "end", "names",
                              "weight x b", "undo", "names", "redo", "names"),
                         ["begun", "kept", "kept", "kept", "kept", "done", "x", "yes", "done", "none", "done", "x"])
        self.assertEqual(said(desk, "begin", "end", "undo", "names"), ["begun", "done", "done", "x"])

    def test_refused(self):
        desk = Desk(REST + "\nput x letter a\nput y repeated name x")
        for line, answer in [("put x one", "taken"), ("put z name q", "no name"), ("drop q", "no name"), ("drop x", "in use"),
                             ("anew x name y", "round"), ("anew x scaled 2 one", "no star"),
                             ("put z " + "turned " * 60 + "one", "too deep")]:
            self.assertEqual(said(desk, "begin", "put u one", line, "drop u", "end", "names", "end"),
                             ["begun", "kept", "kept", "kept", answer, "x y", "bad line"])
        self.assertEqual(desk.say("undo"), "nothing")
        self.assertTrue(desk.say("log").endswith("begin put u\nend put u done\nbegin put z\nend put z refused\n"
                                                 "end together - refused\nbegin undo -\nend undo - refused"))

    def test_left(self):
        desk = Desk(TRUTH)
        self.assertEqual(said(desk, "begin", "put x one", "leave", "names", "log", "leave", "end", "begin", "leave", "put x zero"),
                         ["begun", "kept", "left", "none", "none", "bad line", "bad line", "begun", "left", "done"])
        self.assertEqual(said(desk, "begin", "put y one", "end", "names"), ["begun", "kept", "done", "x y"])

    def test_what_is_not_here(self):
        desk = Desk(TRUTH + "\nput x letter a")
        others = ["begin", "undo", "redo", "weight x a", "alike x x", "least x", "rests x", "names", "room", "log", "put z", "drop",
                  None, 3, "leave it", "weight q a"]
        self.assertEqual(said(desk, "begin", *others, "put y name x", *others, "end", "names"),
                         ["begun"] + ["bad line"] * len(others) + ["kept"] + ["bad line"] * len(others) + ["done", "x y"])
        self.assertEqual(said(desk, "end", "leave"), ["bad line", "bad line"])


class DesksTest(unittest.TestCase):
    def test_two_desks_by_turns(self):
        one, other = Desk(text=COUNT), Desk(COUNT)
        self.assertEqual(said(one, "begin", "put z one"), ["begun", "kept"])
        self.assertEqual(said(other, "put z name x", "names", "end"), ["done", "x y z", "bad line"])
        self.assertEqual(said(one, "end", "names", "undo", "names"), ["done", "x y z", "done", "x y"])
        self.assertEqual(other.say(line="names"), "x y z")
        self.assertEqual(other.say("room"), COUNT + "\nput z name x")

    def test_texts_that_are_refused(self):
        for text, told in [("", ("BadLine", (1,))), ("ring truth", ("BadLine", (2,))), (TRUTH + "\n", ("BadLine", (3,))),
                           (TRUTH + "\nput x name x", ("BadLine", (3,))), (None, ("BadLine", (0,))), (3, ("BadLine", (0,))),
                           ("ring table 2 0 1 1 0 0 0 1 1\nletters a", ("BadTable", ("product turned", (0, 1)))),
                           (room_in(TRUTH), ("BadLine", (0,)))]:
            self.assertEqual(refusal(Desk, text), told, text)

    def test_many_lines(self):
        """Lines that look like chance against the model of a room."""
        numbers = Numbers(151)
        words = {"BadName": "bad line", "Taken": "taken", "NoName": "no name", "Round": "round", "TooDeep": "too deep",
                 "NoStar": "no star", "InUse": "in use", "Nothing": "nothing", None: "done"}
        found = set()
        for made in [("count",), ("rest", 6), ("rest", 4), ("least",)]:
            ring = ring_of(made)
            for _ in range(5):
                desk, model, group = Desk(f"ring {ring}\nletters ab"), Model(ring), None
                for _ in range(70):
                    turn = numbers.below(12)
                    names = list(model.kept) or NAMES[:1]
                    expression = named_expression(numbers, made, "ab", 1 + numbers.below(7), names)
                    name = numbers.one_of(NAMES)
                    deed = ("anew" if turn < 4 else "put", name, expression) if turn < 8 else ("drop", name)
                    line = f"drop {name}" if turn >= 8 else f"{deed[0]} {name} " + " ".join(words_of(expression))
                    self.assertTrue(turn >= 8 or read_expression(words_in(line)[2:], ring, "ab", True) == expression)
                    if turn == 11:
                        line = numbers.one_of(["begin", "end", "leave", "undo", "redo", "names"])
                    answer = desk.say(line)
                    found.add(answer)
                    if turn < 11:
                        if group is None:
                            self.assertEqual(answer, words[model.do(deed)[0]], line)
                        else:
                            group.append(deed)
                            self.assertEqual(answer, "kept")
                    elif group is None:
                        group = [] if line == "begin" else None
                        wanted = {"begin": "begun", "names": " ".join(model.kept) or "none"}.get(line, "bad line")
                        self.assertEqual(answer, words[model.do((line,))[0]] if line in ("undo", "redo") else wanted)
                    elif line in ("end", "leave"):
                        self.assertEqual(answer, "left" if line == "leave" else words[model.do(("together", group))[0]])
                        group = None
                    else:
                        self.assertEqual(answer, "bad line")
                desk.say("leave")
                self.same(desk, model)
        self.assertLessEqual({*words.values(), "kept", "left", "begun"} - {"nothing", "too deep"}, found)

    def same(self, desk, model):
        """The desk's room has the names, the texts and the log of the model."""
        self.assertEqual(desk.say("log"), "\n".join(" ".join(word or "-" for word in row) for row in model.log) or "none")
        lines = [f"put {name} " + " ".join(words_of(expression)) for name, expression in model.kept.items()]
        self.assertEqual(desk.say("room"), "\n".join([f"ring {model.ring}", "letters ab", *lines]))
        for name in model.kept:
            rests = [other for other in model.kept if other in rests_on(name, model.kept)]
            self.assertEqual(desk.say(f"rests {name}"), " ".join(rests) or "none")


class TextTest(unittest.TestCase):
    def test_words_of_expressions_as_names(self):
        desk = Desk(TRUTH)
        self.assertEqual(said(desk, "put put one", "put name added name put name put", "put anew name name", "rests anew",
                              "weight anew -", "drop put", "room"),
                         ["done", "done", "done", "put name", "yes", "in use",
                          TRUTH + "\nput put one\nput name added name put name put\nput anew name name"])
        self.assertEqual(expression_text(("one",), ring=ring_of(("truth",)), alphabet="ab"), "one")


if __name__ == "__main__":
    unittest.main()
