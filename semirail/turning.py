"""Automata made of one other that has been looked at, by what becomes of its words."""

from semirail.bare import add_to, by_letters, moved, still_of, steps_of, trim_of


def turned_of(kind, one):
    """The weight of each word read from behind."""
    states, starts, ends, steps = one
    sums = {(j, letter, i): weight for i, letter, j, weight in steps}
    return states, ends, starts, steps_of(kind, sums)


def left_of(kind, letter, one):
    """The weight of a letter and each word."""
    states, starts, ends, steps = still_of(kind, one)
    behind = moved(kind, [(i, j, weight) for i, sign, j, weight in steps if sign == letter], starts)
    return trim_of(kind, (states, tuple(behind), ends, steps))


def renamed_of(kind, one, names):
    """The sum over all words that come to each one when their letters are renamed by a dict."""
    sums = {}
    for i, letter, j, weight in one[3]:
        add_to(kind, sums, (i, names.get(letter, letter), j), weight)
    return one[0], one[1], one[2], steps_of(kind, sums)


def spelled_of(kind, one, spellings):
    """The weight of each word when its letters are spelled by the words of a dict."""
    states, starts, ends, steps = trim_of(kind, still_of(kind, one))
    ways = ways_by_letters((states, starts, ends, steps))
    sums = {}
    for letter, word in spellings.items():
        for state in range(states):
            for j, weight in row_behind(kind, ways, state, word).items():
                add_to(kind, sums, (state, letter, j), weight)
    return trim_of(kind, (states, starts, ends, steps_of(kind, sums)))


def ways_by_letters(automaton):
    """For each (I, LETTER) of a step a list of its (J, WEIGHT)."""
    told = {}
    for letter, steps in by_letters(automaton).items():
        for i, j, weight in steps:
            told.setdefault((i, letter), []).append((j, weight))
    return told


def row_behind(kind, ways, state, word):
    """For the states to which a word leads from one state the sums over its paths."""
    row = {state: kind.one()}
    for letter in word:
        then = {}
        for i, weight in row.items():
            for j, further in ways.get((i, letter), []):
                add_to(kind, then, j, kind.times(weight, further))
        row = then
    return row
