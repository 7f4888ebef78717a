"""What is reckoned of transducers that have been looked at: nothing here refuses anything."""

from semirail.bare import add_to, still_of, steps_of, trim_of
from semirail.folds import total_of
from semirail.pairing import pairs_of, ways_from
from semirail.turning import row_behind, ways_by_letters


def _by_letters(steps):
    """For each (I, LETTER) of a step a list of its (WORD, J, WEIGHT)."""
    told = {}
    for i, letter, word, j, weight in steps:
        told.setdefault((i, letter), []).append((word, j, weight))
    return told


def pair_weight_of(kind, transducer, x, y):
    """The weight of a pair of words, by how much of the second one is written."""
    _, starts, ends, steps = transducer
    ways = _by_letters(steps)
    row = {(state, 0): weight for state, weight in enumerate(starts)}
    for letter in x:
        then = {}
        for (i, at), weight in row.items():
            for word, j, further in ways.get((i, letter), []):
                end = at + len(word)
                if y[at:end] == word:
                    add_to(kind, then, (j, end), kind.times(weight, further))
        row = then
    return total_of(kind, [kind.times(weight, ends[state]) for (state, at), weight in row.items() if at == len(y)])


class Writer:
    """What rows of some steps write while they read words."""

    def __init__(self, kind, states, steps):
        self._kind = kind
        self._states = states
        self._ways = _by_letters(steps)
        self._known = {}

    def behind(self, row, word, most):
        """What is written behind a row by the rows of steps that make a word, with the sums of their weights.

        The row, and what is told, has for each state a dict of weights by the words that are written. None is
        told where those at one state are more than MOST; MOST None is no bound. Only what goes on to the end of
        the word is followed: what is written ahead of it then never comes to fewer words than are told.
        """
        lives = self._lives(word)
        told = {state: weights for state, weights in row.items() if state in lives[0]}
        for place, letter in enumerate(word):
            then = {}
            for i, weights in told.items():
                for step in self._ways.get((i, letter), []):
                    if step[1] in lives[place + 1]:
                        self._write(weights, step, then.setdefault(step[1], {}))
            if most is not None and max([len(weights) for weights in then.values()], default=0) > most:
                return None
            told = then
        return told

    def _write(self, weights, step, sums):
        """Add to the sums of a state what one more step to it writes."""
        word, _, further = step
        for written, weight in weights.items():
            add_to(self._kind, sums, written + word, self._kind.times(weight, further))

    def _lives(self, word):
        """For each place in a word the states from which the rest of it can be read."""
        if word not in self._known:
            lives = [{state: True for state in range(self._states)}]
            for letter in reversed(word):
                lives.append({i: True for (i, sign), steps in self._ways.items()
                              if sign == letter and any([step[1] in lives[-1] for step in steps])})
            self._known[word] = list(reversed(lives))
        return self._known[word]


def written_of(kind, transducer, x, most):
    """For all words that are written for a word their weights: a dict, or None where there are more than MOST."""
    states, starts, ends, steps = transducer
    row = {state: {"": weight} for state, weight in enumerate(starts)}
    told = Writer(kind, states, steps).behind(row, x, most)
    if told is None:
        return None
    sums = {}
    for state, weights in told.items():
        for word, weight in weights.items():
            add_to(kind, sums, word, kind.times(weight, ends[state]))
    return sums if len(sums) <= most else None


def composed_of(kind, one, other):
    """The transducer of which the second one reads what the first one writes."""
    first = trim_of(kind, one)
    second = trim_of(kind, other)
    ways = ways_from(first)
    writer = Writer(kind, second[0], [step for step in second[3] if step[4] != kind.zero()])
    return pairs_of(kind, first, second, lambda pair: _both_write(kind, ways, writer, pair))


def _both_write(kind, ways, writer, pair):
    """The steps ((LETTER, WORD), PAIR, WEIGHT) from a pair: a step of the one, and what the other makes of it."""
    told = []
    for letter, word, i, weight in ways[pair[0]]:
        behind = writer.behind({pair[1]: {"": weight}}, word, None)
        told.extend([((letter, written), (i, j), further) for j, weights in behind.items()
                     for written, further in weights.items()])
    return told


def sent_of(kind, automaton, transducer):
    """The automaton of what is written for the words of another one."""
    first = trim_of(kind, still_of(kind, automaton))
    second = trim_of(kind, transducer)
    ways, others = ways_from(first), ways_from(second)
    told = pairs_of(kind, first, second, lambda pair: _one_writes(kind, ways, others, pair))
    return trim_of(kind, still_of(kind, _spelled_out(kind, told)))


def _one_writes(kind, ways, others, pair):
    """The steps ((WORD,), PAIR, WEIGHT) from a pair: both read a letter, and the second one writes."""
    return [((word,), (i, j), kind.times(weight, further)) for letter, i, weight in ways[pair[0]]
            for sign, word, j, further in others[pair[1]] if sign == letter]


def _spelled_out(kind, automaton):
    """The automaton whose steps are letters, of one whose steps are words; the empty ones are silent.

    All words that end alike at a state share the states that stand within them.
    """
    states, starts, ends, steps = automaton
    places = {}
    sums = {}
    for i, word, j, weight in steps:
        for at in reversed(range(1, len(word))):
            rest = word[at:]
            if (rest, j) not in places:
                places[rest, j] = states + len(places)
                sums[places[rest, j], rest[0], places.get((rest[1:], j), j)] = kind.one()
        add_to(kind, sums, (i, word[:1], places.get((word[1:], j), j)), weight)
    zeros = tuple([kind.zero() for _ in places])
    return states + len(places), starts + zeros, ends + zeros, steps_of(kind, sums)


def asked_back_of(kind, transducer, automaton):
    """The automaton that gives each word what another one gives to what is written for it."""
    first = trim_of(kind, transducer)
    second = trim_of(kind, still_of(kind, automaton))
    ways, others = ways_from(first), ways_by_letters(second)
    return pairs_of(kind, first, second, lambda pair: _one_reads(kind, ways, others, pair))


def _one_reads(kind, ways, others, pair):
    """The steps ((LETTER,), PAIR, WEIGHT) from a pair: a step of the one, and the other reads what it writes."""
    return [((letter,), (i, j), kind.times(weight, further)) for letter, word, i, weight in ways[pair[0]]
            for j, further in row_behind(kind, others, pair[1], word).items()]
