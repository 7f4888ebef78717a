"""Rooms: named expressions that rest on one another, over all changes."""

from semirail.bare import weight_of
from semirail.errors import BadDeed, Nothing, Refused, Unknown, Unreckoned
from semirail.expressions import by_cuts
from semirail.keeping import Keeping, keeping_of
from semirail.machines import machine_of
from semirail.needs import need_both, need_word
from semirail.papers import parted
from semirail.parts import in_order
from semirail.places import automaton_of
from semirail.texts import room_text
from semirail.words import is_name

# Of an expression with more parts that make pairs of states no automaton is asked.
_PAIRING = 4

# How many parts a deed has, by its first word.
_DEEDS = {"put": 3, "anew": 3, "drop": 2}


class Room:
    """A room of a ring and an alphabet."""

    def __init__(self, ring, alphabet):
        need_both(ring, alphabet)
        self._ring = ring
        self._alphabet = alphabet
        self._keeping = Keeping(ring, alphabet, {})
        self._past = []
        self._future = []
        self._log = []
        self._depth = 0

    def ring(self):
        """The Ring of the weights."""
        return self._ring

    def alphabet(self):
        """The letters of the words."""
        return self._alphabet

    def put(self, name, expression, *, anew=False):
        """Put an expression by a name; anew it may take the place of another one."""
        self._change(self._done(self._keeping, ("anew" if anew else "put", name, expression)))

    def drop(self, name):
        """Take a name out."""
        self._change(self._done(self._keeping, ("drop", name)))

    def together(self, deeds):
        """Do a row of puts and drops, all of them or none."""
        self._begin("together", "")
        try:
            _need_deeds(deeds)
            then = self._keeping
            for deed in deeds:
                then = self._done(then, deed)
        except (Refused, Unreckoned, Unknown):
            self._end("together", "", "refused")
            raise
        self._end("together", "", "done")
        self._change(then)

    def undo(self):
        """Go back to what was ahead of the last deed that was done."""
        self._go("undo", self._past, self._future)

    def redo(self):
        """Go on to what the last undo found."""
        self._go("redo", self._future, self._past)

    def _go(self, word, ahead, behind):
        """Take up the last of what is kept on one side, and leave what is there now on the other one."""
        self._begin(word, "")
        if not ahead:
            self._end(word, "", "refused")
            raise Nothing(f"there is nothing to {word}")
        behind.append(self._keeping)
        self._keeping = ahead.pop()
        self._end(word, "", "done")

    def _done(self, keeping, deed):
        """The names behind a put or a drop, of which the log tells."""
        word = "drop" if deed[0] == "drop" else "put"
        name = deed[1] if is_name(deed[1]) else ""
        self._begin(word, name)
        try:
            then = keeping.without(deed[1]) if word == "drop" else keeping.with_put(deed[1], deed[2], deed[0] == "anew")
        except (Refused, Unreckoned, Unknown):
            self._end(word, name, "refused")
            raise
        self._end(word, name, "done")
        return then

    def _change(self, then):
        """Go on to other names; what was undone is forgotten."""
        self._past.append(self._keeping)
        self._future = []
        self._keeping = then

    def _begin(self, word, name):
        self._depth += 1
        self._log.append(("begin", word, name))

    def _end(self, word, name, how):
        self._log.append(("end", word, name, how))
        self._depth -= 1

    def names(self):
        """The names, in the order in which they were put first."""
        return self._keeping.names()

    def expression(self, name):
        """The expression of a name, as it was put."""
        return self._keeping.entry(name).expression()

    def plainer(self, name):
        """The expression of a name with those of all names in it put in."""
        return self._keeping.entry(name).plainer()

    def weight(self, name, word=""):
        """The weight that a name gives to a word."""
        plainer = self.plainer(name)
        need_word(self._alphabet, word)
        if len([part for part in in_order(plainer) if part[0] in ("met", "shuffled")]) > _PAIRING:
            return by_cuts(plainer, word, ring=self._ring, alphabet=self._alphabet)
        return weight_of(self._ring.kind(), self.automaton(name), word)

    def automaton(self, name):
        """An automaton of the same weights as a name."""
        return automaton_of(self.plainer(name), ring=self._ring, alphabet=self._alphabet)

    def rests(self, name):
        """The names on which one rests, straight or by others, in order."""
        return self._keeping.rests(name)

    def least(self, name):
        """The least machine that gives the same weights as a name."""
        return self._machine(name).least()

    def alike(self, one, other):
        """The first word to which two names don't give the same, or None."""
        self._keeping.entry(one)
        self._keeping.entry(other)
        return parted(self._machine(one), self._machine(other))

    def _machine(self, name):
        return machine_of(self.automaton(name), ring=self._ring, alphabet=self._alphabet)

    def log(self):
        """The lines of all that was begun and ended."""
        return list(self._log)

    def depth(self):
        """How many deeds are under way."""
        return self._depth

    def twin(self):
        """Another room of the same, which goes by itself."""
        other = Room(self._ring, self._alphabet)
        other.take(self._keeping, self._past, self._future, self._log)
        return other

    def take(self, keeping, past, future, log):
        """Begin with what another room has, or a list of names; what is handed in isn't changed."""
        self._keeping = keeping
        self._past = list(past)
        self._future = list(future)
        self._log = list(log)

    def __eq__(self, other):
        if not isinstance(other, Room) or not self._ring == other._ring or self._alphabet != other._alphabet:
            return False
        return self._keeping.rows() == other._keeping.rows()

    def __len__(self):
        return len(self._keeping.names())

    def __str__(self):
        return str(room_text(self))


def _need_deeds(deeds):
    """Refuse what is no row of deeds; what stands in them is looked at when their turns come."""
    if not isinstance(deeds, (list, tuple)) or not all([_is_deed(deed) for deed in deeds]):
        raise BadDeed("not a row of puts and drops")


def _is_deed(thing):
    if not isinstance(thing, tuple) or len(thing) == 0 or not isinstance(thing[0], str):
        return False
    return _DEEDS.get(thing[0]) == len(thing)


def room_of(rows, *, ring, alphabet):
    """A room of a list of pairs of names and expressions, all names there from the first on."""
    room = Room(ring, alphabet)
    room.take(keeping_of(ring, alphabet, rows), [], [], [])
    return room
