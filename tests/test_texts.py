"""How expressions, automata and rooms are written, and that just these texts are read."""

import unittest

from semirail.reading import automaton_in, expression_in, room_in
from semirail.ringof import ring_of
from semirail.room import Room
from semirail.texts import automaton_text, expression_text, room_text
from tests.automata import KINDS, random_automaton, samples
from tests.expressions import otherwise, random_expression, size
from tests.readers import changed_texts, read_automaton, read_expression, read_room
from tests.rooms import NAMES, fault, named_expression
from tests.samples import MADE, ODD, THREE, Numbers, Stranger, closed, refusal, weights_of
from tests.test_automata import NO_AUTOMATA, SOME
from tests.test_room import A, B, ONE, X, deep, ok, room_with, wide

COUNT, REST, LEAST = ring_of(("count",)), ring_of(("rest", 6)), ring_of(("least",))
AB = {"ring": COUNT, "alphabet": "ab"}
NO_TEXTS = [thing for thing in ODD if not isinstance(thing, str)] + [["one"], ("one",), b"one"]
WORDS = ["one", "letter", "a", "b", "c", "name", "x", "q", "put", "0", "1", "-1", "endless", "none", "yes", "step", "-", "ab"]


class ExpressionTest(unittest.TestCase):
    def test_written_and_read_back(self):
        numbers = Numbers(141)
        for made in MADE:
            more = {"ring": ring_of(made), "alphabet": "ab"}
            for turn in range(12):
                expression = random_expression(numbers, made, "ab", 1 + turn * 2)
                text = expression_text(expression, **more)
                self.assertEqual(repr(expression_in(text, **more)), repr(expression))
                self.assertEqual(repr(read_expression(text.split(" "), more["ring"], "ab")), repr(expression))
            for worth in weights_of(made):
                text = f"scaled {more['ring'].written(worth)} one"
                self.assertEqual(expression_text(("scaled", worth, ONE), **more), text)
                self.assertEqual(repr(expression_in(text, **more)), repr(("scaled", worth, ONE)))

    def test_by_hand(self):
        whole = ("added", ("scaled", 3, ("followed", A, ("turned", B))), ("left", "b", ("shuffled", ("met", A, ONE),
                                                                                        ("repeated", ("zero",)))))
        text = "added scaled 3 followed letter a turned letter b left b shuffled met letter a one repeated zero"
        self.assertEqual(expression_text(whole, **AB), text)
        self.assertEqual(expression_in(text, **AB), whole)
        self.assertEqual(expression_text(expression=A, alphabet="ab", ring=COUNT), "letter a")
        self.assertEqual(expression_in(text="letter a", alphabet="ab", ring=COUNT), A)
        # Whether a star is there isn't looked at.
        lacks = ("repeated", ("scaled", 2, ONE))
        self.assertEqual(expression_in(expression_text(lacks, ring=REST, alphabet="ab"), ring=REST, alphabet="ab"), lacks)

    def test_changed_texts(self):
        numbers = Numbers(142)
        found = {True: 0, False: 0}
        for made in KINDS:
            more = {"ring": ring_of(made), "alphabet": "ab"}
            for parts in (1, 2, 4, 7, 9):
                text = expression_text(random_expression(numbers, made, "ab", parts), **more)
                for other in changed_texts(text, WORDS + [more["ring"].written(worth) for worth in weights_of(made)[:3]]):
                    wanted = read_expression(other.split(" ") if "\n" not in other else None, more["ring"], "ab")
                    if wanted is None:
                        self.assertEqual(refusal(expression_in, other, **more), ("BadLine", (1,)), other)
                    else:
                        self.assertEqual(repr(expression_in(other, **more)), repr(wanted))
                        self.assertEqual(expression_text(wanted, **more), other)
                    found[wanted is None] += 1
        self.assertGreater(min(found.values()), 100)

    def test_bounds(self):
        for many in (60, 61, 99, 100):
            self.assertEqual(expression_in(expression_text(deep(many), **AB), **AB), deep(many))
        for many in (101, 102, 4000):
            self.assertEqual(refusal(expression_in, "turned " * (many - 1) + "one", **AB), ("BadLine", (1,)))
        self.assertEqual(refusal(expression_in, " ".join(["turned"] * 2800), **AB), ("BadLine", (1,)))
        for many in (297, 299):
            self.assertEqual(expression_in(expression_text(wide(many), **AB), **AB), wide(many))
        three = ("turned", wide(299))
        self.assertEqual(size(three)[0], 300)
        self.assertEqual(expression_in(expression_text(three, **AB), **AB), three)
        for many in (301, 1201):
            self.assertEqual(refusal(expression_in, expression_text(wide(many), **AB), **AB), ("BadLine", (1,)))

    def test_refusals(self):
        whole = ("followed", ("added", A, ("scaled", 3, A)), ("left", "b", ("repeated", ("met", A, B))))
        for thing in [thing for thing in otherwise(whole, "ab") if not ok(thing)] + [X, ("turned", X)]:
            self.assertEqual(refusal(expression_text, thing, **AB)[0], "BadExpression", thing)
        for thing in NO_TEXTS:
            self.assertEqual(refusal(expression_in, thing, **AB), ("BadLine", (0,)), thing)
        for text in ["", " ", "\n", "one\n", "\none", "one one", "letter", "letter c", "letter ab", "letter A", "name x",
                     "scaled", "scaled 3", "scaled one 3", "scaled x one", "scaled 03 one", "scaled -1 one", "One", "added one",
                     "turned name x", "(one)", "one,", "added  one one"]:
            self.assertEqual(refusal(expression_in, text, **AB), ("BadLine", (1,)), text)
        for call in (expression_in, expression_text, automaton_in, automaton_text):
            for thing in ODD + [("count",)]:
                self.assertEqual(refusal(call, None, ring=thing, alphabet=None), ("BadRing", ("ring",)))
            for thing in [None, "", "ba", "aB", "abcdefg", ["a"], 1, b"ab", Stranger()]:
                self.assertEqual(refusal(call, None, ring=COUNT, alphabet=thing)[0], "BadWord", thing)


class AutomatonTest(unittest.TestCase):
    def test_written_and_read_back(self):
        numbers = Numbers(143)
        for made in MADE:
            more = {"ring": ring_of(made), "alphabet": "ab"}
            for automaton in samples(numbers, made, "ab", 10):
                text = automaton_text(automaton, **more)
                self.assertEqual(repr(automaton_in(text, **more)), repr(automaton))
                self.assertEqual(repr(read_automaton(text, more["ring"], "ab")), repr(automaton))

    def test_by_hand(self):
        text = "states 2\nstart 0 1\nend 1 2\nstep 0 - 1 1\nstep 0 a 0 3\nstep 0 a 1 2\nstep 1 b 0 1"
        self.assertEqual(automaton_text(SOME, **AB), text)
        self.assertEqual(automaton_in(text, **AB), SOME)
        self.assertEqual(automaton_text(automaton=(0, (), (), ()), alphabet="ab", ring=COUNT), "states 0")
        self.assertEqual(automaton_in(text="states 0", alphabet="ab", ring=COUNT), (0, (), (), ()))
        self.assertEqual(automaton_in("states 12", **AB), (12, (0,) * 12, (0,) * 12, ()))
        # Steps of zero are written, starts and ends of zero aren't; in the least ring zero is "none".
        told = (2, (0, "none"), ("none", -3), ((1, "a", 0, "none"), (1, "b", 1, "endless")))
        text = "states 2\nstart 0 0\nend 1 -3\nstep 1 a 0 none\nstep 1 b 1 endless"
        self.assertEqual(automaton_text(told, ring=LEAST, alphabet="ab"), text)
        self.assertEqual(automaton_in(text, ring=LEAST, alphabet="ab"), told)

    def test_the_line_that_can_not_stand_there(self):
        for text, line in [
            ("", 1), ("\n", 1), (" ", 1), ("states", 1), ("states -1", 1), ("states 02", 1), ("states 1 1", 1), ("States 1", 1),
            ("states x", 1), ("start 0 1", 1), ("states 1\n", 2), ("states 1\n\nend 0 1", 2), ("states 1\nstart 0 0", 2),
            ("states 1\nstart 0 1\nend 0 0", 3), ("states 1\nstart 1 1", 2), ("states 1\nstart 0 1\nstart 0 1", 3),
            ("states 2\nstart 1 1\nstart 0 1", 3), ("states 2\nend 0 1\nstart 0 1", 3), ("states 1\nstart 0", 2),
            ("states 1\nstart 0 1 1", 2), ("states 1\nstart 0 -1", 2), ("states 1\nstart 0 01", 2), ("states 1\nstart 00 1", 2),
            ("states 1\nstart -0 1", 2), ("states 1\nstep 0 a 0 1\nend 0 1", 3), ("states 1\nstep 0 c 0 1", 2),
            ("states 1\nstep 0 ab 0 1", 2), ("states 1\nstep 0 a 1 1", 2), ("states 1\nstep 1 a 0 1", 2),
            ("states 1\nstep 0 a 0 1\nstep 0 a 0 1", 3), ("states 1\nstep 0 a 0 1\nstep 0 - 0 1", 3),
            ("states 2\nstep 0 a 1 1\nstep 0 a 0 1", 3), ("states 1\nstep 0 a 0", 2), ("states 1\nstep 0 a 0 1 1", 2),
            ("states 1\nstates 1", 2), ("states 0\nstart 0 1", 2), ("states 1\nstart 0 1 \nend 0 0", 2),
            ("states 1\nstart  0 1", 2), ("states 1\nstep 0  0 1", 2), ("states 1\nstart 0 none", 2),
        ]:
            self.assertEqual(refusal(automaton_in, text, **AB), ("BadLine", (line,)), text)
            self.assertEqual(read_automaton(text, COUNT, "ab"), line, text)
        for made in MADE:
            told = refusal(automaton_in, "states 1\nstep 0 - 0 " + ring_of(made).written(ring_of(made).one()),
                           ring=ring_of(made), alphabet="ab")
            self.assertEqual(told[0], None if closed(made) else "BadLine")

    def test_changed_texts(self):
        numbers = Numbers(144)
        found = {True: 0, False: 0}
        for made in KINDS:
            more = {"ring": ring_of(made), "alphabet": "ab"}
            for states in (1, 3):
                text = automaton_text(random_automaton(numbers, made, "ab", states, 4, silent=True), **more)
                words = ["0", "1", "2", "7", "a", "b", "-", "c", "start", "end", "step", "states", "x"]
                for other in changed_texts(text, words + [more["ring"].written(worth) for worth in weights_of(made)[:3]]):
                    wanted = read_automaton(other, more["ring"], "ab")
                    found[isinstance(wanted, int)] += 1
                    if isinstance(wanted, int):
                        self.assertEqual(refusal(automaton_in, other, **more), ("BadLine", (wanted,)), other)
                    else:
                        self.assertEqual(repr(automaton_in(other, **more)), repr(wanted), other)
                        self.assertEqual(automaton_text(wanted, **more), other)
        self.assertGreater(min(found.values()), 100)

    def test_refusals(self):
        for thing in NO_AUTOMATA + ODD:
            self.assertEqual(refusal(automaton_text, thing, **AB)[0], "BadAutomaton", thing)
        for thing in NO_TEXTS:
            self.assertEqual(refusal(automaton_in, thing, **AB), ("BadLine", (0,)), thing)


class RoomTest(unittest.TestCase):
    def test_written_and_read_back(self):
        numbers = Numbers(145)
        for made in MADE:
            room = Room(ring_of(made), "abz")
            for _ in range(12):
                expression = named_expression(numbers, made, "abz", 1 + numbers.below(8), room.names())
                refusal(room.put, numbers.one_of(NAMES), expression, anew=numbers.below(2) == 0)
            text = room_text(room)
            self.assertEqual(text, str(room))
            again = room_in(text)
            self.assertTrue(again == room)
            self.assertEqual(str(again), text)
            self.assertEqual((again.log(), refusal(again.undo)[0], refusal(again.redo)[0]), ([], "Nothing", "Nothing"))
            ring, letters, kept = read_room(text)
            self.assertEqual((ring, letters, list(kept.items())),
                             (room.ring(), "abz", [(name, room.expression(name)) for name in room.names()]))

    def test_by_hand(self):
        room = room_with(x=("followed", A, A), y=("added", X, ("scaled", "endless", X)))
        text = "ring count\nletters ab\nput x followed letter a letter a\nput y added name x scaled endless name x"
        self.assertEqual(room_text(room=room), text)
        self.assertTrue(room_in(text=text) == room)
        self.assertEqual(room_text(Room(ring_of(("pair", ("lot", 2), ("share",))), "z")), "ring pair lot 2 share\nletters z")
        # Names put by later lines, and the words of expressions as names.
        later = room_in("ring rest 6\nletters ab\nput put added name name name one\nput name turned name one\nput one zero")
        self.assertEqual(later.names(), ["put", "name", "one"])
        self.assertEqual(later.plainer("put"), ("added", ("turned", ("zero",)), ("zero",)))
        tables = "ring table 3 0 1 2 1 2 0 2 0 1 0 0 0 0 1 2 0 2 1\nletters ab"
        self.assertTrue(room_in(tables).ring() == ring_of(THREE))

    def test_the_line_that_can_not_stand_there(self):
        front = "ring rest 6\nletters ab\n"
        for text, line in [
            ("", 1), ("\n", 1), (" ", 1), ("ring", 1), ("ring rest", 1), ("ring rest 1", 1), ("ring  truth", 1), ("truth", 1),
            ("ring truth ", 1), ("ring truth truth", 1), ("Ring truth", 1), ("ring truth", 2), ("ring truth\n", 2),
            ("ring truth\nletters", 2), ("ring truth\nletters ba", 2), ("ring truth\nletters a b", 2), ("ring truth\nput x one", 2),
            ("ring truth\nletters abcdefg", 2), ("ring truth\nLetters ab", 2), ("letters ab\nring truth", 1),
            (front, 3), (front + "put", 3), (front + "put x", 3), (front + "put x one\n", 4), (front + "put x one one", 3),
            (front + "put X one", 3), (front + "put abcdefghi one", 3), (front + "put x letter c", 3), (front + "puts x one", 3),
            (front + "put x scaled 6 one", 3), (front + "put x one\nput x one", 4), (front + "put x name y", 3),
            (front + "put x name y\nput y", 4), (front + "put x name y\nput y one one", 4), (front + "put x name y\nput  y one", 3),
            (front + "put x name y\nput y one ", 3), (front + "put x name y\n put y one", 3), (front + "put x name Y\nput Y one", 3),
            (front + "put x name y\ndrop y one", 3), (front + "put x name x", 3), (front + "put y one\nput x name x", 4),
            (front + "put x name y\nput y name x", 3), (front + "put x name x\nput y", 4), (front + "put x name y\nput y name y", 3),
            (front + "put x repeated scaled 2 one", 3), (front + "put x repeated name y\nput y scaled 2 one", 3),
            (front + "put y scaled 2 one\nput x repeated name y", 4), (front + "put x " + "turned " * 60 + "one", 3),
            (front + "put x one\nput y " + "turned " * 60 + "name x\nput z name q", 5),
            (front + "put x one\nput y " + "turned " * 100 + "name x\nput z name q", 4),
            (front + "put x turned name y\nput y " + "turned " * 59 + "one", 3),
            (front + "put x " + "added one " * 150 + "one\nput x one", 3), (front + "ring truth", 3), (front + "letters ab", 3),
        ]:
            self.assertEqual(refusal(room_in, text), ("BadLine", (line,)), text)
            self.assertEqual(read_room(text), line, text)
        self.assertEqual(len(room_in(front + "put x " + "turned " * 59 + "one\nput y name x")), 2)
        for thing in NO_TEXTS:
            self.assertEqual(refusal(room_in, thing), ("BadLine", (0,)), thing)

    def test_bad_tables(self):
        text = "ring table 2 0 1 1 0 0 0 1 1\nletters ba"
        self.assertEqual(refusal(room_in, text), ("BadTable", ("product turned", (0, 1))))
        self.assertEqual(refusal(room_in, "ring pair truth table 2 0 1 0 0 0 0 0 1"), ("BadTable", ("sum turned", (0, 1))))
        self.assertEqual(refusal(room_in, "ring table 2 0 1 1 0 0 0 1 2\nletters ba"), ("BadLine", (1,)))
        self.assertEqual(refusal(room_in, "ring table 2 0 1 1 0 0 0 0\nletters ba"), ("BadLine", (1,)))

    def test_changed_texts(self):
        numbers = Numbers(146)
        found = {True: 0, False: 0}
        for made in KINDS:
            ring = ring_of(made)
            room = Room(ring, "ab")
            while len(room) < 4:
                expression = named_expression(numbers, made, "ab", 1 + numbers.below(4), room.names())
                refusal(room.put, NAMES[len(room)], expression)
            for other in changed_texts(str(room), WORDS[:12] + [ring.written(weights_of(made)[-1]), "y", "rest", "ring"]):
                wanted = read_room(other)
                found[isinstance(wanted, int)] += 1
                what, told = refusal(room_in, other)
                if isinstance(wanted, int):
                    self.assertEqual((what, told), ("BadLine", (wanted,)), other)
                elif len(wanted) == 2:
                    self.assertEqual((what, told), ("BadTable", wanted), other)
                else:
                    self.assertEqual(what, None, other)
                    self.assertEqual(str(told), other)
                    self.assertEqual([(name, told.expression(name)) for name in told.names()], list(wanted[2].items()))
        self.assertGreater(min(found.values()), 100)

    def test_names_by_later_lines_in_rounds_and_without_stars(self):
        numbers = Numbers(147)
        seen = set()
        for turn in range(300):
            made = [("count",), ("rest", 6), ("rest", 5)][turn % 3]
            names = NAMES[:2 + turn % 5]
            rows = [(name, named_expression(numbers, made, "ab", 1 + numbers.below(5), names)) for name in names]
            lines = [f"put {name} " + " ".join(words_of(expression)) for name, expression in rows]
            wanted = [at + 3 for at, name in enumerate(names) if fault(ring_of(made), name, dict(rows))]
            told = refusal(room_in, "\n".join([f"ring {ring_of(made)}", "letters ab", *lines]))
            self.assertEqual(told[1] if told[0] else None, (wanted[0],) if wanted else None)
            seen.add(told[0])
        self.assertEqual(seen, {None, "BadLine"})

    def test_what_was_read_goes_on_by_itself(self):
        room = room_with(x=A)
        again = room_in(str(room))
        again.put("y", X)
        self.assertEqual((room.names(), again.names()), (["x"], ["x", "y"]))
        again.undo()
        self.assertTrue(again == room)


def words_of(expression):
    """The words of an expression's text, where weights are whole numbers and words."""
    told = []
    for part in expression:
        told += words_of(part) if isinstance(part, tuple) else [str(part)]
    return told


if __name__ == "__main__":
    unittest.main()
