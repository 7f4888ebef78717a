"""Automata of the least ring, normed: from each state one step by a letter at the most."""

from semirail.automata import need_automaton
from semirail.bare import by_letters, ended, has_silent, moved
from semirail.errors import BadAutomaton, TooMany
from semirail.needs import need_most
from semirail.ringof import ring_of


def normed(automaton, *, alphabet, most=60):
    """The automaton of the same weights whose states are the normed vectors of words."""
    ring = ring_of(("least",))
    need_automaton(automaton, ring=ring, alphabet=alphabet)
    if has_silent(automaton) or _has_endless(automaton):
        raise BadAutomaton("it has a silent step or an endless weight")
    need_most(most)
    kind = ring.kind()
    letters = by_letters(automaton)
    start, first = _normed(automaton[1])
    rows = [] if start is None else [first]
    places = {row: place for place, row in enumerate(rows)}
    steps = []
    done = 0
    while done < len(rows):
        if len(rows) > most:
            raise TooMany(most)
        for letter in alphabet:
            norm, row = _normed(moved(kind, letters.get(letter, []), rows[done]))
            if norm is not None:
                if row not in places:
                    places[row] = len(rows)
                    rows.append(row)
                steps.append((done, letter, places[row], norm))
        done += 1
    starts = tuple([start if place == 0 else "none" for place in range(len(rows))])
    return len(rows), starts, tuple([ended(kind, automaton, row) for row in rows]), tuple(steps)


def _has_endless(automaton):
    return "endless" in automaton[1] + automaton[2] + tuple([step[3] for step in automaton[3]])


def _normed(row):
    """The norm of a row of weights, None where all are "none", and the row with each number less by it."""
    norm = min([weight for weight in row if weight != "none"], default=None)
    return norm, tuple([weight if weight == "none" else weight - norm for weight in row])
