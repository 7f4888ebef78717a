"""What is reckoned of automata that have been looked at: nothing here refuses anything."""

from semirail.folds import total_of
from semirail.silent import plan_of, settled


def by_letters(automaton):
    """For each letter that a step has a list of its (I, J, WEIGHT)."""
    told = {}
    for i, letter, j, weight in automaton[3]:
        told.setdefault(letter, []).append((i, j, weight))
    return told


def has_silent(automaton):
    """Whether one of its steps is silent."""
    return any([step[1] == "" for step in automaton[3]])


def moved(kind, steps, row):
    """The row of weights behind one of the steps (I, J, WEIGHT) more."""
    zero = kind.zero()
    told = [zero for _ in row]
    for i, j, weight in steps:
        if row[i] != zero:
            told[j] = kind.plus(told[j], kind.times(row[i], weight))
    return told


def vector_of(kind, automaton, word):
    """For each state the sum over all paths of a word to it."""
    steps = by_letters(automaton)
    plan = plan_of(kind, steps.get("", []))
    row = settled(kind, plan, automaton[1])
    for letter in word:
        row = settled(kind, plan, moved(kind, steps.get(letter, []), row))
    return row


def ended(kind, automaton, row):
    """The sum of a row's weights times the ends."""
    return total_of(kind, [kind.times(weight, end) for weight, end in zip(row, automaton[2])])


def weight_of(kind, automaton, word):
    """The weight of a word."""
    return ended(kind, automaton, vector_of(kind, automaton, word))


def add_to(kind, sums, key, weight):
    """Add a weight to those that a key has."""
    sums[key] = kind.plus(sums.get(key, kind.zero()), weight)


def steps_of(kind, sums):
    """The rising tuple of steps of the weights that (I, LETTER, J) have; those of zero are left out.

    What stands between I and J may be anything: a letter, a word, or both.
    """
    zero = kind.zero()
    return tuple([(*key, weight) for key, weight in sorted(sums.items()) if weight != zero])


def still_of(kind, automaton):
    """An automaton of the same weights without silent steps."""
    if not has_silent(automaton):
        return automaton
    states, starts, ends, steps = automaton
    silent = [(i, j, weight) for i, letter, j, weight in steps if letter == ""]
    plan = plan_of(kind, silent)
    begun = {i: True for i, _, _ in silent}
    loud = _steps_from(automaton)
    sums = {}
    told = []
    for state in range(states):
        # Most states may begin no silent step: their rows have but themselves.
        row = _row_from(kind, plan, states, state) if state in begun else [(state, kind.one())]
        told.append(total_of(kind, [kind.times(weight, ends[i]) for i, weight in row]))
        for i, weight in row:
            for letter, j, further in loud[i]:
                add_to(kind, sums, (state, letter, j), kind.times(weight, further))
    return states, starts, tuple(told), steps_of(kind, sums)


def _steps_from(automaton):
    """For each state a list of its steps (LETTER, J, WEIGHT) that aren't silent."""
    told = [[] for _ in range(automaton[0])]
    for i, letter, j, weight in automaton[3]:
        if letter != "":
            told[i].append((letter, j, weight))
    return told


def _row_from(kind, plan, states, state):
    """The states to which silent steps lead from one, with the sums of their weights."""
    row = settled(kind, plan, [kind.one() if at == state else kind.zero() for at in range(states)])
    return [(i, weight) for i, weight in enumerate(row) if weight != kind.zero()]


def trim_of(kind, automaton):
    """The automaton, or transducer, of just those states that lie between a start and an end."""
    states, starts, ends, steps = automaton
    zero = kind.zero()
    onward = [[] for _ in range(states)]
    backward = [[] for _ in range(states)]
    for step in steps:
        if step[-1] != zero:
            onward[step[0]].append(step[-2])
            backward[step[-2]].append(step[0])
    after = _reached(onward, [state for state in range(states) if starts[state] != zero])
    before = _reached(backward, [state for state in range(states) if ends[state] != zero])
    return _only_of(automaton, [state for state in range(states) if after[state] and before[state]])


def _reached(ways, first):
    """For each state whether one of the first ones leads to it."""
    told = [False for _ in ways]
    waiting = list(first)
    while waiting:
        state = waiting.pop()
        if not told[state]:
            told[state] = True
            waiting.extend(ways[state])
    return told


def _only_of(automaton, kept):
    """The automaton of some rising states, with all steps between them."""
    places = {state: place for place, state in enumerate(kept)}
    steps = [(places[step[0]], *step[1:-2], places[step[-2]], step[-1]) for step in automaton[3]
             if step[0] in places and step[-2] in places]
    starts = tuple([automaton[1][state] for state in kept])
    ends = tuple([automaton[2][state] for state in kept])
    return len(kept), starts, ends, tuple(steps)
