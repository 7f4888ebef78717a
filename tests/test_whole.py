"""The whole: what one function tells handed on to the others, the bounds, and that nothing handed in is changed."""

import copy
import unittest

from semirail import errors
from semirail.automata import need_automaton, paths, still, trim, weight
from semirail.back import expression_of
from semirail.dealings import left, led_automaton, renamed, shuffled, spelled, turned
from semirail.desk import Desk
from semirail.expressions import by_cuts, is_plain, need_expression
from semirail.leadings import led, led_ring
from semirail.learner import Learner
from semirail.limits import DEEP, LONG, MOST
from semirail.machines import Machine, machine_of
from semirail.normed import normed
from semirail.operations import added, followed, met, repeated, scaled
from semirail.papers import alike_paper, apart, check_alike, check_least, parted
from semirail.places import automaton_of, placed
from semirail.reading import automaton_in, expression_in, room_in
from semirail.rests import by_rests, rest
from semirail.ringof import ring_in, ring_of
from semirail.room import Room, room_of
from semirail.showing import check, paper
from semirail.texts import automaton_text, expression_text, room_text
from semirail.transducers import asked_back, composed, need_transducer, pair_weight, sent, written_by
from semirail.webs import by_states
from tests.automata import KINDS, random_automaton, words_up_to
from tests.expressions import plain_expression
from tests.machines import first_words
from tests.samples import MADE, ODD, Numbers, error_rows, few, refusal, weights_of
from tests.transducers import random_transducer

TRUTH, COUNT = ring_of(("truth",)), ring_of(("count",))
AB = {"ring": COUNT, "alphabet": "ab"}


class HandedOnTest(unittest.TestCase):
    def test_from_expressions_to_automata_to_texts_and_back(self):
        numbers = Numbers(161)
        for made in MADE:
            more = {"ring": ring_of(made), "alphabet": "ab"}
            for parts in (1, 4, 7, 10):
                expression = plain_expression(numbers, made, "ab", parts)
                what, automaton = refusal(automaton_of, expression, **more)
                if what == "NoStar":
                    continue
                read = expression_in(expression_text(expression, **more), **more)
                again = automaton_in(automaton_text(automaton, **more), **more)
                back = expression_of(again, **more) if again[0] <= 6 and len(again[3]) <= 40 else expression
                self.assertTrue(is_plain(back))
                need_expression(back, **more)
                for word in words_up_to("ab", 3):
                    told = [by_cuts(read, word, **more), by_rests(back, word, **more), weight(again, word, **more),
                            weight(placed(read, **more), word, **more)]
                    self.assertEqual(len({repr(worth) for worth in told}), 1, (expression, word))

    def test_all_that_tell_automata(self):
        numbers = Numbers(162)
        for made in KINDS:
            ring = ring_of(made)
            more = {"ring": ring, "alphabet": "ab"}
            one, other = (random_automaton(numbers, made, "ab", 3, 6, silent=True) for _ in range(2))
            transducer = random_transducer(numbers, made, "ab", 2, 5, ("a", "b", "ba"))
            told = [added(one, other, **more), met(one, other, **more), followed(one, other, **more), turned(one, **more),
                    shuffled(one, other, **more), left("a", one, **more), renamed(one, "ba", **more),
                    spelled(one, ("ab", ""), **more), still(one, **more), trim(one, **more), sent(one, transducer, **more),
                    asked_back(transducer, one, **more), scaled(weights_of(made)[-1], one, **more)]
            what, more_of_it = refusal(repeated, one, **more)
            told += [more_of_it] if what is None else []
            for automaton in told:
                need_automaton(automaton, **more)
                self.assertEqual(repr(automaton_in(automaton_text(automaton, **more), **more)), repr(automaton))
                self.assertEqual(repr(weight(turned(turned(automaton, **more), **more), "ab", **more)),
                                 repr(weight(automaton, "ab", **more)))
                again = sent(automaton, transducer, **more)
                need_automaton(again, **more)
                self.assertIs(type(paths(again, "a", **more)), list)
                if few(made):
                    self.assertEqual(machine_of(automaton, **more, most=10 ** 6).run("ab"), weight(automaton, "ab", **more))

    def test_transducers_one_behind_the_other(self):
        numbers = Numbers(163)
        for made in KINDS:
            ring = ring_of(made)
            more = {"ring": ring, "alphabet": "ab"}
            one, other = (random_transducer(numbers, made, "ab", 2, 4, ("a", "b", "ab")) for _ in range(2))
            both = composed(one, other, **more)
            need_transducer(both, **more)
            automaton = random_automaton(numbers, made, "ab", 2, 4)
            first = sent(sent(automaton, one, **more), other, **more)
            second = sent(automaton, both, **more)
            third = asked_back(one, asked_back(other, automaton, **more), **more)
            fourth = asked_back(both, automaton, **more)
            for word in words_up_to("ab", 3):
                self.assertEqual(repr(weight(first, word, **more)), repr(weight(second, word, **more)), (made, word))
                self.assertEqual(repr(weight(third, word, **more)), repr(weight(fourth, word, **more)), (made, word))
                for y, worth in written_by(both, word, **more):
                    self.assertEqual(repr(pair_weight(both, word, y, **more)), repr(worth))

    def test_led_on(self):
        numbers = Numbers(164)
        for made, how in [(("count",), ("some",)), (("least",), ("turned",)), (("lot", 3), ("bit", 1)),
                          (("pair", ("least",), ("count",)), ("second",)), (("rest", 6), ("rest", 2)),
                          (("terms", 2), ("unknowns", ("rest", 6), (5, 2)))]:
            ring = ring_of(made)
            goal = led_ring(ring, how)
            more, then = {"ring": ring, "alphabet": "ab"}, {"ring": goal, "alphabet": "ab"}
            automaton = random_automaton(numbers, made, "ab", 3, 6)
            transducer = random_transducer(numbers, made, "ab", 2, 4, ("a", "ab"))
            sending = (*transducer[:3], tuple((*step[:4], led(ring, how, step[4])) for step in transducer[3]))
            sending = (sending[0], *(tuple(led(ring, how, worth) for worth in row) for row in sending[1:3]), sending[3])
            first = led_automaton(sent(automaton, transducer, **more), how, **more)
            second = sent(led_automaton(automaton, how, **more), sending, **then)
            for word in words_up_to("ab", 3):
                self.assertEqual(weight(first, word, **then), weight(second, word, **then))
                self.assertEqual(weight(first, word, **then), led(ring, how, weight(sent(automaton, transducer, **more), word,
                                                                                    **more)))

    def test_from_expressions_to_machines_that_are_learnt(self):
        numbers = Numbers(165)
        for made in MADE:
            if not few(made):
                continue
            ring = ring_of(made)
            more = {"ring": ring, "alphabet": "ab"}
            expression = plain_expression(numbers, made, "ab", 8)
            what, automaton = refusal(automaton_of, expression, **more)
            if what is None:
                machine = machine_of(automaton, **more)
                least = machine.least()
                self.assertTrue(check_alike(machine, least, alike_paper(machine, least)))
                self.assertTrue(check_least(least, list(first_words(least).values()), apart(least)))
                learner = Learner(ring, "ab")
                while learner.ask()[0] != "done":
                    asked, thing = learner.ask()
                    word = thing if asked == "weight" else parted(machine, thing)
                    learner.answer(weight(automaton, word, **more) if asked == "weight" else True if word is None else word)
                self.assertEqual(learner.ask()[1], least)
                room = Room(ring, "ab")
                room.put("x", expression)
                self.assertEqual(room.least("x"), least)
                self.assertEqual(Desk(str(room)).say("least x"), str(len(least)))

    def test_normed_and_read(self):
        least = {"ring": ring_of(("least",)), "alphabet": "ab"}
        numbers = Numbers(166)
        for _ in range(30):
            automaton = random_automaton(numbers, ("least",), "ab", 2, 5, weights=["none", 0, 1, 3])
            what, told = refusal(normed, automaton, alphabet="ab")
            if what is None:
                self.assertEqual(automaton_in(automaton_text(told, **least), **least), told)
                self.assertEqual(normed(told, alphabet="ab"), told)

    def test_rests_of_names(self):
        room = room_in("ring count\nletters ab\nput x followed letter a repeated added letter a letter b\nput y met name x name x")
        told = rest(room.plainer("y"), "a", ring=room.ring(), alphabet=room.alphabet())
        room.put("z", told)
        for word in words_up_to("ab", 3):
            self.assertEqual(room.weight("z", word), room.weight("y", "a" + word))
        room.put("u", expression_of(placed(("repeated", ("letter", "a")), **AB), **AB))
        self.assertEqual([room.weight("u", "a" * many) for many in (0, 1, 60)], [1, 1, 1])
        self.assertTrue(room_of([(name, room.expression(name)) for name in room.names()], **AB) == room)
        self.assertTrue(room_in(room_text(room)) == room)


class BoundsTest(unittest.TestCase):
    def test_limits(self):
        self.assertEqual((MOST, DEEP, LONG), (300, 60, 60))
        self.assertTrue(all(type(limit) is int for limit in (MOST, DEEP, LONG)))

    def test_long(self):
        room = Room(COUNT, "ab")
        room.put("x", ("repeated", ("letter", "a")))
        machine = Machine(TRUTH, "a", (True,), ((0,),))
        every = (1, (1,), (1,), ((0, "a", 0, 1),))
        sending = (1, (1,), (1,), ((0, "a", "a", 0, 1),))
        for many in (LONG - 1, LONG, LONG + 1):
            wanted = None if many <= LONG else "BadWord"
            word = "a" * many
            for call in (lambda: room.weight("x", word), lambda: weight(every, word, **AB),
                         lambda: pair_weight(sending, word, "a", **AB), lambda: pair_weight(sending, "a", word, **AB),
                         lambda: written_by(sending, word, **AB), lambda: by_cuts(("one",), word, **AB)):
                self.assertEqual(refusal(call)[0], wanted)
            self.assertEqual(Desk(str(room)).say(f"weight x {word}"), "1" if wanted is None else "bad line")
            self.assertTrue(machine.run(word))
            self.assertEqual(refusal(need_transducer, (1, (1,), (1,), ((0, "a", word, 0, 1),)), **AB)[0],
                             None if many <= LONG else "BadTransducer")
        self.assertTrue(machine.run("a" * 5000))

    def test_most_of_each(self):
        every = (1, (0,), (0,), ())
        for most in (0, 1, 10 ** 6):
            for call, wanted in [(lambda: paths(every, "", **AB, most=most), 1),
                                 (lambda: written_by((1, (0,), (0,), ()), "", **AB, most=most), 1),
                                 (lambda: machine_of((1, (False,), (False,), ()), ring=TRUTH, alphabet="ab", most=most), 1),
                                 (lambda: normed((1, (0,), (0,), ()), alphabet="ab", most=most), 1)]:
                self.assertEqual(refusal(call)[0], None if most >= wanted else "TooMany")
                if most < wanted:
                    self.assertEqual(refusal(call)[1], (most,))


class HandedInTest(unittest.TestCase):
    def test_nothing_is_changed_or_kept(self):
        ring = ring_of(("rest", 6))
        rows = [("x", ("letter", "a")), ("y", ("name", "x"))]
        deeds = [("put", "z", ("name", "y")), ("drop", "z")]
        kept = copy.deepcopy((rows, deeds))
        room = room_of(rows, ring=ring, alphabet="ab")
        room.together(deeds)
        self.assertEqual((rows, deeds), kept)
        rows.append(("u", ("one",)))
        deeds.clear()
        self.assertEqual(room.names(), ["x", "y"])
        machine = Machine(ring, "ab", (0, 1), ((1, 0), (1, 1)))
        reached, parts, pairs = ["", "a"], apart(machine), alike_paper(machine, machine)
        kept = copy.deepcopy((reached, parts, pairs))
        self.assertTrue(check_least(machine, reached, parts) and check_alike(machine, machine, pairs))
        self.assertEqual((reached, parts, pairs), kept)
        parts.clear()
        pairs.clear()
        self.assertEqual((apart(machine), alike_paper(machine, machine)), ([(0, 1, "")], [(0, 0), (1, 1)]))

    def test_what_is_told_is_the_askers_own(self):
        least = ring_of(("least",))
        web = (2, ((0, 1, 3), (1, 0, 2)))
        for call in [lambda: by_states(least, web), lambda: paper(least, web, 0), lambda: COUNT.made(),
                     lambda: room_in("ring count\nletters a\nput x one").names(), lambda: written_by((1, (1,), (1,), ()), "", **AB)]:
            kept = copy.deepcopy(call())
            told = call()
            if isinstance(told, list):
                for row in told:
                    if isinstance(row, list):
                        row.clear()
                told.clear()
            self.assertEqual(call(), kept)
        self.assertTrue(check(least, web, 0, [0, 3], paper(least, web, 0)))

    def test_errors_tell_their_fields(self):
        room = room_in("ring rest 6\nletters ab\nput x letter a\nput y name x")
        for call, what, fields in [
            (lambda: room.drop("x"), "InUse", {"users": ("y",)}), (lambda: room.put("x", ("one",)), "Taken", {"name": "x"}),
            (lambda: room.put("x", ("name", "y"), anew=True), "Round", {"circle": ("x", "y")}),
            (lambda: room.rests("q"), "NoName", {"name": "q"}), (lambda: room_in("ring x"), "BadLine", {"line": 1}),
            (lambda: room_of([("x", ("one",)), 3], ring=COUNT, alphabet="a"), "BadLine", {"line": 2}),
            (lambda: machine_of((0, (), (), ()), ring=TRUTH, alphabet="a", most=0), "TooMany", {"most": 0}),
            (lambda: Room(3, "a"), "BadRing", {"what": "ring"}),
        ]:
            with self.assertRaises((errors.Refused, errors.Unreckoned, errors.Unknown)) as told:
                call()
            self.assertEqual((told.exception.__class__.__name__, vars(told.exception)), (what, fields))
        for name in ("BadDeed", "BadAnswer", "BadTransducer", "BadMachine", "BadName", "NotFew", "Nothing"):
            self.assertEqual([fields for kind, _, _, fields in error_rows() if kind.__name__ == name], [("why",)])

    def test_odd_things_everywhere(self):
        """Whatever is handed in is refused by what is told there, and by nothing else."""
        room = room_in("ring count\nletters ab\nput x letter a")
        machine = Machine(COUNT, "ab", (0,), ((0, 0),))
        for thing in ODD:
            for call, args, more, wanted in [
                (room.put, (thing, thing), {}, ("BadName", "BadExpression")), (room.drop, (thing,), {}, ("NoName",)),
                (room.together, (thing,), {}, ("BadDeed", None)), (room.alike, (thing, thing), {}, ("NoName",)),
                (room_of, (thing,), AB, ("BadLine", None)), (room_in, (thing,), {}, ("BadLine",)), (Desk, (thing,), {}, ("BadLine",)),
                (parted, (machine, thing), {}, ("BadMachine",)), (apart, (thing,), {}, ("BadMachine",)),
                (check_alike, (machine, machine, thing), {}, (None,)), (check_least, (machine, thing, thing), {}, (None,)),
                (machine.run, (thing,), {}, ("BadWord", None)), (normed, (thing,), {"alphabet": "ab"}, ("BadAutomaton",)),
                (need_transducer, (thing,), AB, ("BadTransducer",)), (Machine, (COUNT, "ab", thing, thing), {}, ("BadMachine",)),
                (Learner(COUNT, "ab").answer, (thing,), {}, ("BadAnswer", None)), (Learner, (COUNT, thing), {}, ("BadWord", None)),
                (expression_text, (thing,), AB, ("BadExpression",)), (automaton_in, (thing,), AB, ("BadLine",)),
                (ring_in, (thing,), {}, ("BadLine", None)),
            ]:
                self.assertIn(refusal(call, *args, **more)[0], wanted, (call, thing))
        self.assertEqual(room.names(), ["x"])


if __name__ == "__main__":
    unittest.main()
