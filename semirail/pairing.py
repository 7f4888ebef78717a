"""Automata whose states are pairs of those of two others: both go on, or one of them."""

from semirail.bare import add_to, still_of, steps_of, trim_of


def met_of(kind, one, other):
    """The product of both: both read each letter."""
    return _paired(kind, one, other, _both_on)


def shuffled_of(kind, one, other):
    """The sum over all dealings of a word's letters: one of the two reads each."""
    return _paired(kind, one, other, _one_on)


def _both_on(kind, ways, others, pair):
    """The steps ((LETTER,), PAIR, WEIGHT) from a pair by which both go on."""
    return [((letter,), (i, j), kind.times(weight, further)) for letter, i, weight in ways[pair[0]]
            for sign, j, further in others[pair[1]] if sign == letter]


def _one_on(kind, ways, others, pair):
    """The steps ((LETTER,), PAIR, WEIGHT) from a pair by which one of the two goes on."""
    told = [((letter,), (i, pair[1]), weight) for letter, i, weight in ways[pair[0]]]
    return told + [((letter,), (pair[0], j), weight) for letter, j, weight in others[pair[1]]]


def _paired(kind, one, other, going):
    first = trim_of(kind, still_of(kind, one))
    second = trim_of(kind, still_of(kind, other))
    ways, others = ways_from(first), ways_from(second)
    return pairs_of(kind, first, second, lambda pair: going(kind, ways, others, pair))


def pairs_of(kind, first, second, going):
    """The automaton, or transducer, of the pairs of states to which begun ones lead.

    Of each pair are told the steps from it, (BETWEEN, PAIR, WEIGHT), BETWEEN a tuple of what stands in a step
    between its two states.
    """
    pairs = [(i, j) for i in _begun(kind, first) for j in _begun(kind, second)]
    places = {pair: place for place, pair in enumerate(pairs)}
    sums = {}
    done = 0
    while done < len(pairs):
        onward = going(pairs[done])
        for between, pair, weight in onward:
            if weight != kind.zero():
                if pair not in places:
                    places[pair] = len(pairs)
                    pairs.append(pair)
                add_to(kind, sums, (done, *between, places[pair]), weight)
        done += 1
    starts = tuple([kind.times(first[1][i], second[1][j]) for i, j in pairs])
    ends = tuple([kind.times(first[2][i], second[2][j]) for i, j in pairs])
    return trim_of(kind, (len(pairs), starts, ends, steps_of(kind, sums)))


def _begun(kind, automaton):
    """The states whose start isn't zero."""
    return [state for state, start in enumerate(automaton[1]) if start != kind.zero()]


def ways_from(automaton):
    """For each state a list of its steps without it: (LETTER, J, WEIGHT)."""
    told = [[] for _ in range(automaton[0])]
    for step in automaton[3]:
        told[step[0]].append(step[1:])
    return told
