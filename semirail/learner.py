"""A learner of machines, by asking for the weights of words and whether a machine is the one."""

from semirail.errors import BadAnswer
from semirail.guessing import Guess
from semirail.machines import Machine
from semirail.needs import need_both
from semirail.words import is_word


class Learner:
    """A learner of a ring and an alphabet; what it asks stays the same until it is answered."""

    def __init__(self, ring, alphabet):
        need_both(ring, alphabet)
        self._ring = ring
        self._alphabet = alphabet
        self._guess = Guess(alphabet)
        self._wanted = []
        self._machine = None
        self._done = False
        self._go_on()

    def ask(self):
        """What is to be answered: ("weight", WORD) or ("like", Machine); ("done", Machine) at the end."""
        if self._wanted:
            return "weight", self._wanted[-1]
        what = "done" if self._done else "like"
        return what, self._machine

    def answer(self, thing):
        """Take the answer to what is asked: a weight; True, or a word to which the machine doesn't give its own."""
        if self._done:
            raise BadAnswer("nothing more is asked")
        if self._wanted:
            self._take_weight(thing)
        elif thing is True:
            self._done = True
        else:
            self._take_word(thing)

    def _take_weight(self, thing):
        if not self._ring.good(thing):
            raise BadAnswer("not a weight of the ring")
        self._guess.tell(self._wanted.pop(), thing)
        if not self._wanted:
            self._go_on()

    def _take_word(self, thing):
        # The machine gives all words that were told their weights.
        if not is_word(self._alphabet, thing, long=None) or self._guess.knows(thing):
            raise BadAnswer("not a word to which the machine doesn't give its weight")
        self._wanted = [thing]

    def _go_on(self):
        """Find the words that are to be asked next, or else the machine."""
        self._wanted = self._guess.lacking()[::-1]
        if not self._wanted:
            machine = Machine(self._ring, self._alphabet, self._guess.ends(), self._guess.moves())
            self._machine = machine.least()
