"""What a transducer is, the weights of pairs of words, and what transducers make of each other and of automata."""

import itertools
import unittest

from semirail.automata import need_automaton, paths, weight
from semirail.operations import added, met
from semirail.ringof import ring_of
from semirail.transducers import asked_back, composed, need_transducer, pair_weight, sent, written_by
from semirail.webs import by_states
from tests.automata import KINDS, good_automaton, random_automaton, samples, table_weight, words_up_to
from tests.samples import MADE, ODD, Numbers, Stranger, closed, refusal, weights_of
from tests.test_automata import NO_AUTOMATA, SOME
from tests.transducers import good_transducer, listed_pairs, random_transducer, transducer_samples

COUNT, REST = ring_of(("count",)), ring_of(("rest", 6))
AB = {"ring": COUNT, "alphabet": "ab"}
NONE = (0, (), (), ())
# Each "a" is written as nothing, "ab" (twice), each "b" as itself; a second state is led to and back.
SEND = (2, (1, 0), (1, 3), ((0, "a", "", 0, 1), (0, "a", "ab", 0, 2), (0, "b", "b", 1, 1), (1, "a", "ba", 0, 5)))
# Point 14 with one part otherwise.
NO_TRANSDUCERS = [
    None, (), [], "transducer", 4, (0,), (0, (), ()), (0, (), (), (), ()), [0, (), (), ()], (0, [], (), ()),
    (0, (), [], ()), (0, (), (), []), (0, (), (), None), (0, None, (), ()), (0, (), None, ()), (None, (), (), ()),
    (False, (), (), ()), ("", (), (), ()), (-1, (), (), ()), (True, (1,), (1,), ()), (1, (), (1,), ()),
    (1, (1,), (), ()), (1, (1, 1), (1,), ()), (1, (1,), (1, 1), ()), (2, (1,), (1,), ()), (1, (-1,), (1,), ()),
    (1, (1,), (True,), ()), (1, (None,), (1,), ()), (1, [1], (1,), ()), (1, (1,), [1], ()), (1, (1,), ("none",), ()),
    (1, (1,), (1,), [(0, "a", "", 0, 1)]), (1, (1,), (1,), (0, "a", "", 0, 1)), (1, (1,), (1,), ([0, "a", "", 0, 1],)),
    (1, (1,), (1,), ((0, "a", 0, 1),)), (1, (1,), (1,), ((0, "a", "", 0, 1, 1),)), (1, (1,), (1,), ((0, "", "a", 0, 1),)),
    (1, (1,), (1,), ((0, "c", "", 0, 1),)), (1, (1,), (1,), ((0, "ab", "", 0, 1),)), (1, (1,), (1,), ((0, "A", "", 0, 1),)),
    (1, (1,), (1,), ((0, None, "", 0, 1),)), (1, (1,), (1,), ((0, b"a", "", 0, 1),)), (1, (1,), (1,), ((0, "-", "", 0, 1),)),
    (1, (1,), (1,), ((0, ("a",), "", 0, 1),)), (1, (1,), (1,), ((0, "a", "c", 0, 1),)), (1, (1,), (1,), ((0, "a", "aC", 0, 1),)),
    (1, (1,), (1,), ((0, "a", None, 0, 1),)), (1, (1,), (1,), ((0, "a", b"a", 0, 1),)), (1, (1,), (1,), ((0, "a", "-", 0, 1),)),
    (1, (1,), (1,), ((0, "a", ("a",), 0, 1),)), (1, (1,), (1,), ((0, "a", ["a"], 0, 1),)), (1, (1,), (1,), ((0, "a", 0, 0, 1),)),
    (1, (1,), (1,), ((0, "a", "a" * 61, 0, 1),)), (1, (1,), (1,), ((1, "a", "", 0, 1),)), (1, (1,), (1,), ((0, "a", "", 1, 1),)),
    (1, (1,), (1,), ((-1, "a", "", 0, 1),)), (1, (1,), (1,), ((0, "a", "", -1, 1),)), (1, (1,), (1,), ((False, "a", "", 0, 1),)),
    (1, (1,), (1,), ((0, "a", "", False, 1),)), (1, (1,), (1,), ((0, "a", "", 0, True),)), (1, (1,), (1,), ((0, "a", "", 0, -1),)),
    (1, (1,), (1,), ((0, "a", "", 0, None),)), (1, (1,), (1,), ((0, "a", "", 0, 1), (0, "a", "", 0, 1))),
    (1, (1,), (1,), ((0, "a", "", 0, 1), (0, "a", "", 0, 2))), (1, (1,), (1,), ((0, "b", "", 0, 1), (0, "a", "", 0, 1))),
    (1, (1,), (1,), ((0, "a", "b", 0, 1), (0, "a", "", 0, 1))), (1, (1,), (1,), ((0, "a", "b", 0, 1), (0, "a", "ab", 0, 1))),
    (2, (1, 1), (1, 1), ((0, "a", "", 1, 1), (0, "a", "", 0, 1))), (2, (1, 1), (1, 1), ((1, "a", "", 0, 1), (0, "a", "", 0, 1))),
    (0, (), (), ((0, "a", "", 0, 1),)), (0, (), (), ((),)), (1, (1,), (1,), (None,)), (1, (1,), (1,), "a"), SOME,
]


class NeedTransducerTest(unittest.TestCase):
    CALLS = [(need_transducer, ()), (pair_weight, ("a", "a")), (written_by, ("a",)), (composed, (NONE,)),
             (asked_back, (NONE,))]

    def test_good_ones(self):
        numbers = Numbers(81)
        for made in MADE:
            for transducer in transducer_samples(numbers, made, 6):
                self.assertIsNone(need_transducer(transducer, ring=ring_of(made), alphabet="ab"))
                self.assertIsNone(need_transducer(thing=transducer, alphabet="abz", ring=ring_of(made)))
        # They rise by the first four, as texts do: "ab" ahead of "b".
        rising = ((0, "a", "", 0, 1), (0, "a", "", 1, 0), (0, "a", "a", 0, 1), (0, "a", "ab", 0, 1), (0, "a", "b", 0, 1),
                  (0, "b", "", 0, 1), (1, "a", "b" * 60, 0, "endless"))
        self.assertIsNone(need_transducer((2, (0, 0), (0, 0), rising), **AB))

    def test_one_part_otherwise(self):
        for thing in NO_TRANSDUCERS + ODD:
            for call, more in self.CALLS:
                self.assertEqual(refusal(call, thing, *more, **AB)[0], "BadTransducer", (call, thing))
            self.assertEqual(refusal(composed, NONE, thing, **AB)[0], "BadTransducer", thing)
            self.assertEqual(refusal(sent, SOME, thing, **AB)[0], "BadTransducer", thing)

    def test_weights_of_other_rings(self):
        for made, worth in [(("truth",), 1), (("count",), True), (("rest", 6), 6), (("share",), (2, 4)), (("lot", 3), 8),
                            (("terms", 1), (((0,), 0),)), (("least",), (1,)), (("narrow",), -1)]:
            ring = ring_of(made)
            zero = ring.zero()
            for thing in [(1, (worth,), (zero,), ()), (1, (zero,), (worth,), ()),
                          (1, (zero,), (zero,), ((0, "a", "", 0, worth),))]:
                self.assertEqual(refusal(need_transducer, thing, ring=ring, alphabet="a")[0], "BadTransducer")

    def test_rings_and_alphabets_go_ahead(self):
        for call, more in self.CALLS + [(sent, (None,))]:
            for thing in ODD + [("count",)]:
                for alphabet in ("ab", None):
                    self.assertEqual(refusal(call, None, *more, ring=thing, alphabet=alphabet), ("BadRing", ("ring",)))
            for thing in [None, "", "ba", "aa", "aB", "abcdefg", ["a"], ("a",), 1, b"ab", "a b", Stranger(), {"a"}]:
                self.assertEqual(refusal(call, None, *more, ring=COUNT, alphabet=thing)[0], "BadWord", thing)


class PairsTest(unittest.TestCase):
    def test_pair_weight_by_all_paths(self):
        numbers = Numbers(82)
        for made in MADE:
            ring = ring_of(made)
            for transducer in transducer_samples(numbers, made, 4):
                for x in words_up_to("ab", 3):
                    wanted = listed_pairs(ring, transducer, x)
                    for y in {*wanted, "", "a", "bb", "abab", "ba"}:
                        self.assertEqual(repr(pair_weight(transducer, x, y, ring=ring, alphabet="ab")),
                                         repr(wanted.get(y, ring.zero())), (made, transducer, x, y))

    def test_by_hand(self):
        self.assertEqual(pair_weight(SEND, "", "", **AB), 1)
        self.assertEqual(pair_weight(SEND, "", "a", **AB), 0)
        self.assertEqual(pair_weight(SEND, "aa", "ab", **AB), 4)
        self.assertEqual(pair_weight(SEND, "ab", "abb", **AB), 6)
        self.assertEqual(pair_weight(SEND, "ba", "bba", **AB), 5)
        self.assertEqual(pair_weight(y="ba", x="ba", transducer=SEND, alphabet="ab", ring=COUNT), 0)
        self.assertEqual(pair_weight(SEND, "a" * 60, "ab" * 30, **AB), 118264581564861424 * 2 ** 30)
        self.assertEqual(written_by(SEND, "ab", **AB), [("b", 3), ("abb", 6), ("bab", 0)])
        self.assertEqual(written_by(x="", transducer=SEND, alphabet="ab", ring=COUNT), [("", 1)])

    def test_written_by(self):
        numbers = Numbers(83)
        for made in MADE:
            ring = ring_of(made)
            for transducer in transducer_samples(numbers, made, 5):
                for x in words_up_to("ab", 4):
                    listed = listed_pairs(ring, transducer, x)
                    wanted = [(y, listed[y]) for y in sorted(listed, key=lambda y: (len(y), y))]
                    told = written_by(transducer, x, ring=ring, alphabet="ab", most=10 ** 6)
                    self.assertEqual(repr(told), repr(wanted), (made, transducer, x))
                    self.assertEqual(written_by(transducer, x, ring=ring, alphabet="ab", most=len(told)), told)
                    if told:
                        self.assertEqual(refusal(written_by, transducer, x, ring=ring, alphabet="ab",
                                                 most=len(told) - 1), ("TooMany", (len(told) - 1,)))

    def test_written_by_of_nothing(self):
        self.assertEqual(written_by(NONE, "", **AB), [])
        self.assertEqual(written_by(NONE, "ab", **AB, most=0), [])
        self.assertEqual(written_by((2, (0, 0), (0, 0), ()), "", **AB), [("", 0)])
        self.assertEqual(written_by((2, (0, 0), (0, 0), ()), "a", **AB), [])
        self.assertEqual(refusal(written_by, (1, (0,), (0,), ()), "", **AB, most=0), ("TooMany", (0,)))
        # Weights of zero are told too: of a start, of a step, and where a sum comes to zero.
        self.assertEqual(written_by((2, (0, 1), (1, 1), ((0, "a", "b", 0, 1), (1, "a", "a", 1, 0))), "a", **AB),
                         [("a", 0), ("b", 0)])
        two = (1, (1,), (1,), ((0, "a", "", 0, 2), (0, "b", "", 0, 3)))
        self.assertEqual(written_by(two, "ab", ring=REST, alphabet="ab"), [("", 0)])

    def test_most(self):
        # Each "a" is written as "a" or "b": as many words as 2 so often.
        wide = (1, (1,), (1,), ((0, "a", "a", 0, 1), (0, "a", "b", 0, 1)))
        self.assertEqual(len(written_by(wide, "a" * 8, **AB)), 256)
        self.assertEqual(refusal(written_by, wide, "a" * 9, **AB), ("TooMany", (300,)))
        self.assertEqual(refusal(written_by, wide, "a" * 60, **AB), ("TooMany", (300,)))
        self.assertEqual(len(written_by(wide, "a" * 9, **AB, most=512)), 512)
        # Of very many rows of steps one word comes.
        same = (2, (1, 1), (1, 1), tuple((i, "a", "b" * 60, j, 1) for i in (0, 1) for j in (0, 1)))
        self.assertEqual(written_by(same, "a" * 60, **AB, most=1), [("b" * 3600, 2 ** 61)])
        # What can't be read to the end isn't followed, however much is written on the way.
        ahead = wide[3] + ((1, "a", "", 1, 1), (1, "b", "ab", 2, 1))
        self.assertEqual(written_by((3, (1, 1, 1), (1, 1, 1), ahead), "a" * 59 + "b", **AB, most=1), [("ab", 1)])
        # "a" and "aa", so often: many rows, few words.
        long = (1, (1,), (1,), ((0, "a", "a", 0, 1), (0, "a", "aa", 0, 1)))
        told = written_by(long, "a" * 60, **AB, most=61)
        self.assertEqual([len(word) for word, _ in told], list(range(60, 121)))
        self.assertEqual(sum(worth for _, worth in told), 2 ** 60)

    def test_refusals_of_words_and_numbers(self):
        for thing in [None, 1, "c", "aC", b"a", ["a"], ("a",), Stranger(), True, "a" * 61]:
            self.assertEqual(refusal(pair_weight, SEND, thing, "a", **AB)[0], "BadWord")
            self.assertEqual(refusal(pair_weight, SEND, "a", thing, **AB)[0], "BadWord")
            self.assertEqual(refusal(written_by, SEND, thing, **AB, most=None)[0], "BadWord")
            self.assertEqual(refusal(pair_weight, None, thing, thing, **AB)[0], "BadTransducer")
        for most in [-1, 10 ** 6 + 1, True, None, "3", (3,), Stranger()]:
            self.assertEqual(refusal(written_by, SEND, "a" * 60, **AB, most=most)[0], "BadNumber", most)


class ComposedTest(unittest.TestCase):
    def test_by_the_sum_over_all_words_between(self):
        numbers = Numbers(84)
        for made in MADE:
            ring = ring_of(made)
            more = {"ring": ring, "alphabet": "ab"}
            first = transducer_samples(numbers, made, 4, ("", "a", "b", "ab", "bba"))
            second = transducer_samples(numbers, made, 4)
            for one, other in zip(first, second[2:] + second[:2]):
                told = composed(one, other, **more)
                self.assertTrue(good_transducer(ring, "ab", told), told)
                self.assertIsNone(need_transducer(told, **more))
                for x in words_up_to("ab", 2):
                    sums = {}
                    for y, worth in listed_pairs(ring, one, x).items():
                        for z, further in listed_pairs(ring, other, y).items():
                            sums.setdefault(z, []).append(ring.times(worth, further))
                    for z in {*sums, "", "a", "ba"}:
                        self.assertEqual(repr(pair_weight(told, x, z, **more)), repr(ring.total(sums.get(z, []))),
                                         (made, one, other, x, z))

    def test_what_would_lead_nowhere_is_left_out(self):
        # A step that writes sixty letters, each of which the second one may write in two ways, but never all.
        one = (2, (1, 0), (1, 1), ((0, "a", "a" * 59 + "b", 1, 1), (0, "b", "ab", 0, 1)))
        wide = (2, (1, 0), (1, 1), ((0, "a", "a", 0, 1), (0, "a", "b", 0, 1), (1, "b", "b", 1, 1)))
        self.assertEqual(composed(one, wide, **AB)[3], ())
        # Its rows of steps may be many, as long as they write few words.
        same = (2, (1, 0), (1, 1), tuple((i, letter, "", j, 1) for i in (0, 1) for letter in "ab" for j in (0, 1)))
        told = composed(one, same, **AB)
        self.assertEqual(pair_weight(told, "a", "", **AB), 2 ** 60)
        self.assertLess(len(told[3]), 20)

    def test_steps_of_zero_are_not_needed(self):
        one = (1, (1,), (1,), ((0, "a", "a" * 60, 0, 0), (0, "b", "a", 0, 1)))
        other = (1, (1,), (1,), ((0, "a", "a", 0, 1), (0, "a", "aa", 0, 0)))
        self.assertEqual(composed(one, other, **AB), (1, (1,), (1,), ((0, "b", "a", 0, 1),)))

    def test_by_name(self):
        self.assertEqual(composed(other=SEND, one=SEND, alphabet="ab", ring=COUNT), composed(SEND, SEND, **AB))


def distance_weight(ring, automaton, transducer, y):
    """The weight that point 14 gives to Y of what is sent, by the distances in a web.

    Its states are those of the automaton, of the transducer, and how much of Y is written.
    """
    nodes = list(itertools.product(range(automaton[0]), range(transducer[0]), range(len(y) + 1)))
    steps = [((i, j, at), (to, j, at), worth) for i, letter, to, worth in automaton[3] if letter == ""
             for j in range(transducer[0]) for at in range(len(y) + 1)]
    steps += [((i, j, at), (to, then, at + len(word)), ring.times(worth, further))
              for i, letter, to, worth in automaton[3] for j, sign, word, then, further in transducer[3]
              if sign == letter for at in range(len(y) + 1) if y[at:at + len(word)] == word]
    sums = {}
    for one, other, worth in steps:
        key = (nodes.index(one), nodes.index(other))
        sums[key] = ring.plus(sums.get(key, ring.zero()), worth)
    kept = [key + (worth,) for key, worth in sums.items() if worth != ring.zero()]
    if len(kept) > 80 or not nodes:
        return None if nodes else ring.zero()
    table = by_states(ring, (len(nodes), tuple(kept)))
    begun = [(nodes.index((i, j, 0)), ring.times(automaton[1][i], transducer[1][j]))
             for i in range(automaton[0]) for j in range(transducer[0])]
    ended = [(nodes.index((i, j, len(y))), ring.times(automaton[2][i], transducer[2][j]))
             for i in range(automaton[0]) for j in range(transducer[0])]
    return ring.total([ring.product([worth, table[at][to], further]) for at, worth in begun for to, further in ended])


class SentTest(unittest.TestCase):
    def test_by_the_sum_over_all_words(self):
        numbers = Numbers(85)
        for made in MADE:
            ring = ring_of(made)
            more = {"ring": ring, "alphabet": "ab"}
            automata = samples(numbers, made, "ab", 4)
            transducers = transducer_samples(numbers, made, 4, ("a", "b", "ab", "bab"))
            for automaton, transducer in zip(automata, transducers[1:] + transducers[:1]):
                told = sent(automaton, transducer, **more)
                self.assertTrue(good_automaton(ring, "ab", told), told)
                pairs = {x: listed_pairs(ring, transducer, x) for x in words_up_to("ab", 4)}
                gives = {x: table_weight(ring, automaton, x) for x in pairs}
                for y in words_up_to("ab", 4):
                    wanted = ring.total([ring.times(gives[x], pairs[x].get(y, ring.zero())) for x in pairs])
                    self.assertEqual(repr(weight(told, y, **more)), repr(wanted), (made, automaton, transducer, y))

    def test_words_without_end(self):
        numbers = Numbers(86)
        found = 0
        for made in MADE:
            if not closed(made):
                continue
            ring = ring_of(made)
            more = {"ring": ring, "alphabet": "ab"}
            for turn in range(12):
                automaton = random_automaton(numbers, made, "ab", 1 + numbers.below(2), 1 + numbers.below(6),
                                             silent=turn % 2 == 0)
                transducer = random_transducer(numbers, made, "ab", 1 + numbers.below(2), 1 + numbers.below(6),
                                               ("", "", "a", "ab"))
                told = sent(automaton, transducer, **more)
                self.assertTrue(good_automaton(ring, "ab", told), told)
                for y in words_up_to("ab", 2):
                    wanted = distance_weight(ring, automaton, transducer, y)
                    if wanted is not None:
                        found += 1
                        self.assertEqual(repr(weight(told, y, **more)), repr(wanted), (made, automaton, transducer, y))
        self.assertGreater(found, 500)

    def test_by_hand(self):
        # Each word of so many "a" and no "b" is written as nothing: endlessly many of them.
        every = (1, (1,), (1,), ((0, "a", 0, 1), (0, "b", 0, 1)))
        forget = (1, (1,), (1,), ((0, "a", "", 0, 1), (0, "b", "b", 0, 1)))
        self.assertEqual(weight(sent(every, forget, **AB), "b", **AB), "endless")
        least = {"ring": ring_of(("least",)), "alphabet": "ab"}
        dear = (1, (0,), (0,), ((0, "a", 0, 2), (0, "b", 0, 3)))
        self.assertEqual(weight(sent(dear, (1, (0,), (0,), ((0, "a", "", 0, -1), (0, "b", "b", 0, 0))), **least), "bb",
                                **least), 6)
        self.assertEqual(weight(sent(dear, (1, (0,), (0,), ((0, "a", "", 0, -3), (0, "b", "b", 0, 0))), **least), "bb",
                                **least), "endless")
        long = (1, (1,), (1,), ((0, "a", "ab" * 30, 0, 2), (0, "b", "b" * 59 + "a", 0, 3)))
        told = sent(every, long, **AB)
        self.assertEqual([weight(told, word, **AB) for word in ("ab" * 30, "b" * 59 + "a", "ab", "b" * 60, "")],
                         [2, 3, 0, 0, 1])

    def test_other_functions_take_what_is_told(self):
        told = sent(SOME, SEND, **AB)
        need_automaton(told, **AB)
        self.assertIs(type(paths(told, "b", **AB)), list)
        self.assertEqual(weight(added(told, SOME, **AB), "a", **AB), COUNT.plus(weight(told, "a", **AB), 10))
        self.assertEqual(weight(sent(automaton=told, transducer=SEND, alphabet="ab", ring=COUNT), "b", **AB), "endless")

    def test_not_closed(self):
        for made in MADE:
            ring = ring_of(made)
            one, zero = ring.one(), ring.zero()
            every = (1, (one,), (one,), ((0, "a", 0, one),))
            for worth in (zero, one):
                for transducer in [(1, (zero,), (zero,), ((0, "a", "", 0, worth),)),
                                   (2, (one, zero), (one, zero), ((0, "a", "a", 0, one), (1, "b", "", 1, worth)))]:
                    told = refusal(sent, every, transducer, ring=ring, alphabet="ab")
                    self.assertEqual(told[0], None if closed(made) else "NotClosed", (made, transducer))
            self.assertIsNone(refusal(sent, every, (1, (one,), (one,), ((0, "a", "a", 0, one),)), ring=ring,
                                      alphabet="ab")[0])
        bad = (1, (1,), (1,), ((0, "a", "", 0, 1),))
        self.assertEqual(refusal(sent, None, bad, ring=REST, alphabet="ab")[0], "BadAutomaton")
        self.assertEqual(refusal(sent, (1, (1,), (1,), ((0, "", 0, 1),)), bad, ring=REST, alphabet="ab")[0], "BadAutomaton")
        self.assertEqual(refusal(sent, NONE, (1, (1,), (6,), ((0, "a", "", 0, 1),)), ring=REST, alphabet="ab")[0],
                         "BadTransducer")

    def test_no_automata_go_ahead_of_no_transducers(self):
        for thing in NO_AUTOMATA:
            self.assertEqual(refusal(sent, thing, None, **AB)[0], "BadAutomaton", thing)


class AskedBackTest(unittest.TestCase):
    def test_by_the_sum_over_all_words(self):
        numbers = Numbers(87)
        for made in MADE:
            ring = ring_of(made)
            more = {"ring": ring, "alphabet": "ab"}
            automata = samples(numbers, made, "ab", 4)
            transducers = transducer_samples(numbers, made, 4, ("", "a", "b", "ab", "bab"))
            for automaton, transducer in zip(automata, transducers[2:] + transducers[:2]):
                told = asked_back(transducer, automaton, **more)
                self.assertTrue(good_automaton(ring, "ab", told), told)
                for x in words_up_to("ab", 3):
                    wanted = ring.total([ring.times(worth, table_weight(ring, automaton, y))
                                         for y, worth in listed_pairs(ring, transducer, x).items()])
                    self.assertEqual(repr(weight(told, x, **more)), repr(wanted), (made, automaton, transducer, x))

    def test_what_is_sent_met_and_asked_back(self):
        # The sum over all pairs of A's weight of X, that of (X, Y), and B's of Y is the same from both sides.
        numbers = Numbers(88)
        for made in KINDS:
            ring = ring_of(made)
            more = {"ring": ring, "alphabet": "ab"}
            one = random_automaton(numbers, made, "ab", 2, 5)
            other = random_automaton(numbers, made, "ab", 2, 5)
            transducer = random_transducer(numbers, made, "ab", 2, 5, ("a", "b"))
            left = met(sent(one, transducer, **more), other, **more)
            right = met(one, asked_back(transducer, other, **more), **more)
            for long in range(4):
                words = [word for word in words_up_to("ab", long) if len(word) == long]
                self.assertEqual(ring.total([weight(left, word, **more) for word in words]),
                                 ring.total([weight(right, word, **more) for word in words]))

    def test_refusals(self):
        for thing in NO_AUTOMATA + ODD:
            self.assertEqual(refusal(asked_back, SEND, thing, **AB)[0], "BadAutomaton", thing)
            self.assertEqual(refusal(asked_back, None, thing, **AB)[0], "BadTransducer", thing)
        self.assertEqual(weight(asked_back(automaton=SOME, transducer=SEND, alphabet="ab", ring=COUNT), "a", **AB), 22)

    def test_nothing_is_changed(self):
        kept = repr((SOME, SEND))
        for _ in range(2):
            self.assertEqual(sent(SOME, SEND, **AB), sent(SOME, SEND, **AB))
            self.assertEqual(asked_back(SEND, SOME, **AB), asked_back(SEND, SOME, **AB))
            told = written_by(SEND, "ab", **AB)
            told.append(3)
            self.assertEqual(written_by(SEND, "ab", **AB), [("b", 3), ("abb", 6), ("bab", 0)])
        self.assertEqual(repr((SOME, SEND)), kept)

    def test_all_weights_are_taken(self):
        for made in MADE:
            ring = ring_of(made)
            every = tuple(weights_of(made))
            steps = tuple((state, "f", "ff", 0, worth) for state, worth in enumerate(every))
            transducer = (len(every), every, every, steps)
            told = written_by(transducer, "f", ring=ring, alphabet="abcdef")
            wanted = ring.total([ring.product([worth, worth, every[0]]) for worth in every])
            self.assertEqual(told, [("ff", wanted)])


if __name__ == "__main__":
    unittest.main()
