"""A learner: what it asks, until it is told yes, and what is no answer."""

import unittest

from semirail.learner import Learner
from semirail.machines import Machine
from semirail.papers import parted
from semirail.ringof import ring_of
from tests.machines import random_machine
from tests.samples import MADE, ODD, Numbers, Stranger, refusal, weights_of

TRUTH, COUNT = ring_of(("truth",)), ring_of(("count",))
# The rest of how many letters there are, divided by three.
THIRDS = Machine(TRUTH, "ab", (True, False, False), ((1, 1), (2, 2), (0, 0)))


class TeachTest(unittest.TestCase):
    def taught(self, machine, example):
        """Teach a machine; tell how many words were asked for, and how many states the asked machines had."""
        learner = Learner(machine.ring(), machine.alphabet())
        told, sizes, given = {}, [], None
        while True:
            what, thing = learner.ask()
            self.assertEqual(learner.ask(), (what, thing))
            if given is not None:
                # A word that was told to part the two is what is asked for next.
                self.assertEqual((what, thing), ("weight", given))
                given = None
            if what == "weight":
                self.assertNotIn(thing, told)
                self.assertIs(type(thing), str)
                told[thing] = machine.run(thing)
                self.assertIsNone(learner.answer(told[thing]))
                continue
            self.assertIs(type(thing), Machine)
            self.assertEqual((thing.ring(), thing.alphabet()), (machine.ring(), machine.alphabet()))
            self.assertEqual(thing.least(), thing)
            if what == "done":
                self.assertEqual(thing, machine.least())
                self.assertEqual(sizes[-1], len(thing))
                return len(told), sizes
            self.assertTrue(all(thing.run(word) == worth for word, worth in told.items()))
            self.assertLess(sizes[-1] if sizes else 0, len(thing))
            self.assertLessEqual(len(thing), len(machine.least()))
            sizes.append(len(thing))
            first = parted(thing, machine)
            given = None if first is None else example(thing, machine, first)
            learner.answer(True if given is None else given)

    def test_machines_of_each_kind(self):
        numbers = Numbers(121)
        for made in MADE:
            for turn in range(6):
                weights = weights_of(made)[:2 + numbers.below(9)]
                machine = random_machine(numbers, made, ("a", "bc", "xyz")[turn % 3], 1 + numbers.below(9), weights)
                self.taught(machine, lambda asked, known, first: first)
                self.taught(machine, long_example(numbers))

    def test_greater_machines(self):
        numbers = Numbers(122)
        for alphabet in ("a", "ab", "abc"):
            for states in (20, 45):
                machine = random_machine(numbers, ("truth",), alphabet, states)
                self.taught(machine, lambda asked, known, first: first)
                self.taught(machine, long_example(numbers, 700))
        ring = Machine(TRUTH, "a", (False,) * 59 + (True,), tuple(((k + 1) % 60,) for k in range(60)))
        self.assertEqual(self.taught(ring, lambda asked, known, first: first)[1], [1, 60])
        lock = Machine(TRUTH, "ab", (False,) * 29 + (True,), tuple(((k + 1) % 30, 0) for k in range(30)))
        self.assertEqual(self.taught(lock, lambda asked, known, first: first)[1][-1], 30)

    def test_few_words_are_asked_for(self):
        # For each state, and each letter from it, about as many as are needed to part it from the others.
        machine = random_machine(Numbers(123), ("truth",), "ab", 60)
        self.assertLess(self.taught(machine, long_example(Numbers(124), 1000))[0], 4000)

    def test_machines_of_one_state(self):
        for made in MADE:
            for worth in weights_of(made)[:4]:
                one = Machine(ring_of(made), "abc", (worth,), ((0, 0, 0),))
                self.assertEqual(self.taught(one, None), (4, [1]))


def long_example(numbers, long=40):
    """A word of so many letters to which the two don't give the same; the first one where none is found."""
    def told(asked, known, first):
        for _ in range(300):
            word = "".join(numbers.one_of(known.alphabet()) for _ in range(long))
            if asked.run(word) != known.run(word):
                return word
        return first
    return told


class AnswerTest(unittest.TestCase):
    NO_WEIGHTS = [None, 0, 1, "", "yes", "a", (True,), [True], b"", Stranger(), {}, 10 ** 9]

    def test_no_weights(self):
        learner = Learner(alphabet="ab", ring=TRUTH)
        while learner.ask()[0] == "weight":
            asked = learner.ask()
            for thing in self.NO_WEIGHTS:
                self.assertEqual(refusal(learner.answer, thing)[0], "BadAnswer", thing)
                self.assertEqual(learner.ask(), asked)
            learner.answer(thing=THIRDS.run(asked[1]))
        for made in MADE:
            ring = ring_of(made)
            learner = Learner(ring, "ab")
            for thing in ODD:
                if not ring.good(thing):
                    self.assertEqual(refusal(learner.answer, thing)[0], "BadAnswer", (made, thing))
            self.assertEqual(learner.ask(), ("weight", ""))
            self.assertIsNone(learner.answer(weights_of(made)[-1]))

    def test_no_answers_to_a_machine(self):
        learner, told = led_to_machine()
        asked = learner.ask()
        for thing in [None, False, 1, 0, "c", "aB", "-", b"a", ["a"], ("a",), Stranger(), "a\n", THIRDS, asked[1], (),
                      *told]:
            self.assertEqual(refusal(learner.answer, thing)[0], "BadAnswer", thing)
            self.assertEqual(learner.ask(), asked)
        long = "a" * 301
        learner.answer(long)
        self.assertEqual(learner.ask(), ("weight", long))
        for thing in self.NO_WEIGHTS + ["aaa", long]:
            self.assertEqual(refusal(learner.answer, thing)[0], "BadAnswer", thing)
            self.assertEqual(learner.ask(), ("weight", long))
        learner.answer(THIRDS.run(long))
        self.assertEqual(finished(learner), THIRDS)

    def test_nothing_to_answer_when_done(self):
        learner, _ = led_to_machine()
        finished(learner)
        self.assertEqual(learner.ask(), ("done", THIRDS))
        for thing in [True, False, None, "", "a", "ab", THIRDS, 0, (), Stranger(), ("done", THIRDS)]:
            self.assertEqual(refusal(learner.answer, thing)[0], "BadAnswer", thing)
            self.assertEqual(learner.ask(), ("done", THIRDS))

    def test_answers_without_asking(self):
        learner, other = Learner(TRUTH, "ab"), Learner(TRUTH, "ab")
        for _ in range(40):
            if other.ask()[0] != "weight":
                break
            worth = THIRDS.run(other.ask()[1])
            learner.answer(worth)
            other.answer(worth)
        self.assertEqual(learner.ask(), other.ask())
        self.assertEqual(learner.ask()[0], "like")

    def test_learners_do_not_know_of_each_other(self):
        machines = [THIRDS, Machine(TRUTH, "ab", (False, True), ((1, 0), (1, 1)))]
        learners = [Learner(TRUTH, "ab") for _ in machines]
        for _ in range(60):
            for learner, machine in zip(learners, machines):
                answer_once(learner, machine)
        self.assertEqual([learner.ask() for learner in learners], [("done", machine.least()) for machine in machines])

    def test_refusals(self):
        for thing in ODD + [("truth",)]:
            self.assertEqual(refusal(Learner, thing, "ab"), ("BadRing", ("ring",)))
            self.assertEqual(refusal(Learner, thing, None), ("BadRing", ("ring",)))
        for thing in [None, "", "ba", "aa", "aB", "abcdefg", ["a"], ("a",), 1, b"ab", Stranger()]:
            self.assertEqual(refusal(Learner, COUNT, thing)[0], "BadWord", thing)

    def test_a_word_that_does_not_part(self):
        # Against point 18 the told word weighs as the machine gives: the same machine is asked of again.
        learner, _ = led_to_machine()
        asked = learner.ask()
        learner.answer("b" * 50)
        learner.answer(asked[1].run("b" * 50))
        self.assertEqual(learner.ask(), asked)


def answer_once(learner, machine):
    """Answer what a learner asks, unless it is done."""
    what, thing = learner.ask()
    if what == "weight":
        learner.answer(machine.run(thing))
    elif what == "like":
        word = parted(machine, thing)
        learner.answer(True if word is None else word)


def led_to_machine():
    """A learner that asks of a machine for the first time, and the words that it was told of."""
    learner, told = Learner(TRUTH, "ab"), []
    while learner.ask()[0] == "weight":
        told.append(learner.ask()[1])
        answer_once(learner, THIRDS)
    return learner, told


def finished(learner):
    """The machine with which a learner of THIRDS ends."""
    while learner.ask()[0] != "done":
        answer_once(learner, THIRDS)
    return learner.ask()[1]


if __name__ == "__main__":
    unittest.main()
