"""Machines: what is one, what it gives to words, the least one, and the machine of an automaton."""

import unittest

from semirail.automata import need_automaton, vector, weight
from semirail.machines import Machine, machine_of
from semirail.operations import added
from semirail.ringof import ring_of
from tests.automata import random_automaton, samples, table_vector, table_weight, words_up_to
from tests.machines import first_words, led_to, random_machine, told_apart
from tests.samples import MADE, ODD, Numbers, Stranger, few, refusal, rings, weights_of
from tests.test_automata import NO_AUTOMATA, NONE, SOME

TRUTH, COUNT, REST = ring_of(("truth",)), ring_of(("count",)), ring_of(("rest", 6))
LOT = ring_of(("lot", 3))
# Words with an "a", of which the last letter is a "b".
GOOD = (TRUTH, "ab", (False, False, True), ((1, 0), (1, 2), (1, 2)))

NO_ENDS = [None, (), [], "ends", 3, (1, 2, 3), [False, False, True], (False, False), (False, False, 1), (False, True, "no"),
           (False, False, True, True), (False, False, None), {}, {0: False}, Stranger(), ((False, False, True),)]
NO_MOVES = [None, (), [], "moves", 3, ((1, 0), (1, 2)), ((1, 0), (1, 2), (1, 2), (0, 0)), [(1, 0), (1, 2), (1, 2)],
            ((1, 0), (1, 2), [1, 2]), ((1, 0), (1, 2), (1,)), ((1, 0), (1, 2), (1, 2, 0)), ((1, 0), (1, 2), (1, 3)),
            ((1, 0), (1, -1), (1, 2)), ((True, 0), (1, 2), (1, 2)), ((1, False), (1, 2), (1, 2)), ((1, 0), (1, 2), None),
            ((1, 0), (1, 2), ("1", 2)), ((1, 0), (1, 2), (None, 2)), ((1, 0), (1, 2), ((1,), 2)), Stranger(), (1, 2, 3)]


class MachineTest(unittest.TestCase):
    def test_good_ones(self):
        numbers = Numbers(91)
        for made in MADE:
            for states in (1, 2, 5):
                machine = random_machine(numbers, made, "adz", states)
                self.assertEqual(len(machine), states)
                self.assertEqual(machine.ring(), ring_of(made))
                self.assertEqual(machine.alphabet(), "adz")
        machine = Machine(moves=GOOD[3], ends=GOOD[2], alphabet="ab", ring=TRUTH)
        self.assertEqual((machine.ring(), machine.alphabet(), machine.ends(), machine.moves()), GOOD)
        self.assertTrue(all(type(row) is tuple for row in (machine.ends(), machine.moves(), *machine.moves())))
        self.assertEqual(len(machine), 3)

    def test_one_part_otherwise(self):
        for thing in NO_ENDS + ODD:
            self.assertEqual(refusal(Machine, TRUTH, "ab", thing, GOOD[3])[0], "BadMachine", thing)
            self.assertEqual(refusal(Machine, TRUTH, "ab", thing, None)[0], "BadMachine", thing)
        for thing in NO_MOVES + ODD:
            self.assertEqual(refusal(Machine, TRUTH, "ab", GOOD[2], thing)[0], "BadMachine", thing)
        for thing in [None, "", "ba", "aa", "aB", "abcdefg", ["a"], ("a",), 1, b"ab", "a b", Stranger(), {"a"}]:
            self.assertEqual(refusal(Machine, TRUTH, thing, None, None)[0], "BadWord", thing)
        for thing in ODD + [("truth",)]:
            self.assertEqual(refusal(Machine, thing, None, None, None), ("BadRing", ("ring",)))
        self.assertEqual(refusal(Machine, COUNT, "ab", GOOD[2], GOOD[3])[0], "BadMachine")
        self.assertEqual(refusal(Machine, TRUTH, "a", GOOD[2], GOOD[3])[0], "BadMachine")
        self.assertEqual(refusal(Machine, TRUTH, "abc", GOOD[2], GOOD[3])[0], "BadMachine")

    def test_alike(self):
        machine = Machine(*GOOD)
        self.assertTrue(machine == Machine(ring_of(("truth",)), "ab", (False, False, True), ((1, 0), (1, 2), (1, 2))))
        others = [Machine(TRUTH, "ac", GOOD[2], GOOD[3]), Machine(TRUTH, "ab", (False, True, True), GOOD[3]),
                  Machine(TRUTH, "ab", GOOD[2], ((1, 0), (1, 2), (2, 2))), Machine(LOT, "ab", (0, 0, 1), GOOD[3]),
                  Machine(ring_of(("rest", 2)), "ab", (0, 0, 1), GOOD[3]), machine.moves(), GOOD, None, str(machine), 3]
        for other in others:
            self.assertFalse(machine == other)
            self.assertTrue(machine != other)
        self.assertFalse(Machine(COUNT, "a", (1,), ((0,),)) == Machine(REST, "a", (1,), ((0,),)))
        self.assertFalse(Machine(COUNT, "a", (1,), ((0,),)) == Machine(TRUTH, "a", (True,), ((0,),)))

    def test_run(self):
        machine = Machine(*GOOD)
        self.assertEqual(machine.run(), False)
        self.assertEqual(machine.run("ab"), True)
        self.assertEqual(machine.run(word="ba"), False)
        numbers = Numbers(92)
        for made in MADE:
            machine = random_machine(numbers, made, "abc", 6)
            for word in words_up_to("abc", 3) + ["cab" * 200, "a" * 61]:
                self.assertEqual(repr(machine.run(word)), repr(machine.ends()[led_to(machine, word)]))
        for thing in [None, 1, "d", "aB", " ", b"a", ["a"], ("a",), Stranger(), "a\n", True, "a" * 400 + "-"]:
            self.assertEqual(refusal(machine.run, thing)[0], "BadWord", thing)

    def test_text(self):
        self.assertEqual(str(Machine(*GOOD)), "states 3\nno 1 0\nno 1 2\nyes 1 2")
        pairs = ring_of(("pair", ("count",), ("lot", 2)))
        self.assertEqual(str(Machine(pairs, "x", (("endless", 2),), ((0,),))), "states 1\n<endless,01> 0")
        terms = ring_of(("terms", 2))
        self.assertEqual(str(Machine(terms, "x", ((), (((0, 1), 2),)), ((1,), (0,)))), "states 2\n0 1\n0.1:2 0")

    def test_what_is_told_is_the_same_again(self):
        machine = Machine(*GOOD)
        for _ in range(2):
            self.assertEqual((machine.ends(), machine.moves(), machine.run("ab"), len(machine)), (*GOOD[2:], True, 3))
            machine.least()


class LeastTest(unittest.TestCase):
    def test_by_words_that_tell_states_apart(self):
        numbers = Numbers(93)
        for made in MADE:
            for turn in range(10):
                weights = weights_of(made)[:2 + turn % 2]
                machine = random_machine(numbers, made, ("a", "ab", "xyz")[turn % 3], 1 + numbers.below(7), weights)
                least = machine.least()
                self.assertEqual(least, told_apart(machine), (machine.ends(), machine.moves()))
                self.assertEqual(least.least(), least)
                for word in words_up_to(machine.alphabet(), 4):
                    self.assertEqual(least.run(word), machine.run(word))

    def test_numbers_in_the_order_of_first_words(self):
        numbers = Numbers(94)
        for _ in range(60):
            least = random_machine(numbers, ("rest", 6), "abc", 1 + numbers.below(30)).least()
            firsts = first_words(least)
            self.assertEqual(list(firsts), list(range(len(least))))
            words = list(firsts.values())
            self.assertEqual(words, sorted(words, key=lambda word: (len(word), word)))

    def test_by_hand(self):
        self.assertEqual(Machine(*GOOD).least(), Machine(*GOOD))
        # A state that is not reached, two that are alike, and numbers in another order.
        machine = Machine(TRUTH, "ab", (False, True, False, True), ((2, 3), (0, 0), (3, 2), (3, 3)))
        self.assertEqual(machine.least(), Machine(TRUTH, "ab", (False, False, True), ((1, 2), (2, 1), (2, 2))))
        same = Machine(COUNT, "a", (4, 4, 4), ((1,), (2,), (0,)))
        self.assertEqual(same.least(), Machine(COUNT, "a", (4,), ((0,),)))
        chain = Machine(TRUTH, "ab", (False,) * 299 + (True,), tuple((min(i + 1, 299), i) for i in range(300)))
        self.assertEqual(chain.least(), chain)


class MachineOfTest(unittest.TestCase):
    def test_states_are_vectors(self):
        numbers = Numbers(95)
        for made in MADE:
            if not few(made):
                continue
            ring = ring_of(made)
            more = {"ring": ring, "alphabet": "ab"}
            for automaton in samples(numbers, made, "ab", 5, states=3):
                told = refusal(machine_of, automaton, **more, most=60)
                if told[0] == "TooMany":
                    continue
                machine = told[1]
                firsts = first_words(machine)
                self.assertEqual(list(firsts), list(range(len(machine))))
                rows = [table_vector(ring, automaton, word) for word in firsts.values()]
                self.assertEqual(len({repr(row) for row in rows}), len(rows))
                for word in words_up_to("ab", 4):
                    self.assertEqual(repr(table_vector(ring, automaton, word)), repr(rows[led_to(machine, word)]))
                    self.assertEqual(repr(machine.run(word)), repr(table_weight(ring, automaton, word)))
                self.assertEqual(machine_of(automaton, **more, most=len(machine)), machine)
                self.assertEqual(refusal(machine_of, automaton, **more, most=len(machine) - 1),
                                 ("TooMany", (len(machine) - 1,)))

    def test_by_hand(self):
        # The rest of how many "a" there are, counted by a state that adds one each time.
        counting = (2, (1, 0), (0, 1), ((0, "a", 0, 1), (0, "a", 1, 1), (0, "b", 0, 1), (1, "a", 1, 1), (1, "b", 1, 1)))
        machine = machine_of(alphabet="ab", ring=REST, automaton=counting)
        self.assertEqual(machine, Machine(REST, "ab", (0, 1, 2, 3, 4, 5), tuple(((k + 1) * (k < 5), k) for k in range(6))))
        self.assertEqual(str(machine).split("\n")[:3], ["states 6", "0 1 0", "1 2 1"])
        great = ring_of(("rest", 1000))
        self.assertEqual(refusal(machine_of, counting, ring=great, alphabet="ab"), ("TooMany", (300,)))
        self.assertEqual(refusal(machine_of, counting, ring=great, alphabet="ab", most=999), ("TooMany", (999,)))
        self.assertEqual(len(machine_of(counting, ring=great, alphabet="ab", most=1000)), 1000)
        # Vectors that are unlike are states, also where they give all words the same.
        twice = (2, (True, False), (False, False), ((0, "a", 1, True),))
        self.assertEqual(len(machine_of(twice, ring=TRUTH, alphabet="ab")), 3)
        self.assertEqual(len(machine_of(twice, ring=TRUTH, alphabet="ab").least()), 1)

    def test_no_states(self):
        for ring in rings():
            if ring.is_few():
                told = machine_of(NONE, ring=ring, alphabet="abc")
                self.assertEqual(told, Machine(ring, "abc", (ring.zero(),), ((0, 0, 0),)))
                self.assertEqual(refusal(machine_of, NONE, ring=ring, alphabet="abc", most=0), ("TooMany", (0,)))

    def test_silent_steps(self):
        silent = (2, (3, 0), (0, 7), ((0, "", 1, 5), (1, "", 0, 6), (1, "a", 1, 3)))
        need_automaton(silent, ring=LOT, alphabet="a")
        machine = machine_of(silent, ring=LOT, alphabet="a")
        self.assertEqual(machine.run(), weight(silent, "", ring=LOT, alphabet="a"))
        self.assertEqual(vector(silent, "", ring=LOT, alphabet="a"), [3, 1])
        # The silent step back to 0 is in the first vector alone.
        self.assertEqual((machine.ends(), machine.moves()), ((1, 1), ((1,), (1,))))

    def test_not_few(self):
        for made in MADE:
            ring = ring_of(made)
            told = refusal(machine_of, NONE, ring=ring, alphabet="ab", most=0)
            self.assertEqual(told[0], "TooMany" if few(made) else "NotFew", made)
            self.assertEqual(refusal(machine_of, None, ring=ring, alphabet="ab", most=None)[0], "BadAutomaton")
            self.assertEqual(refusal(machine_of, NONE, ring=ring, alphabet="ab", most=None)[0], "BadNumber")
            self.assertEqual(refusal(machine_of, NONE, ring=ring, alphabet="ba", most=None)[0], "BadWord")
        for most in [-1, 10 ** 6 + 1, True, "3", (3,), Stranger()]:
            self.assertEqual(refusal(machine_of, NONE, ring=COUNT, alphabet="ab", most=most)[0], "BadNumber", most)
        for thing in NO_AUTOMATA:
            self.assertEqual(refusal(machine_of, thing, ring=COUNT, alphabet="ab")[0], "BadAutomaton", thing)
        for thing in ODD:
            self.assertEqual(refusal(machine_of, SOME, ring=thing, alphabet="ab"), ("BadRing", ("ring",)))

    def test_machines_of_sums(self):
        numbers = Numbers(96)
        for made in [("truth",), ("lot", 3), ("rest", 6), ("narrow",)]:
            ring = ring_of(made)
            more = {"ring": ring, "alphabet": "ab"}
            one, other = (random_automaton(numbers, made, "ab", 3, 6) for _ in range(2))
            told = machine_of(added(one, other, **more), **more, most=10 ** 6).least()
            for word in words_up_to("ab", 5):
                self.assertEqual(told.run(word), ring.plus(weight(one, word, **more), weight(other, word, **more)))


if __name__ == "__main__":
    unittest.main()
