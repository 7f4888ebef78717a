"""Automata made of one or two others that have been looked at: sums, products, and words joined."""

from semirail.bare import add_to, ended, still_of, steps_of, trim_of


def added_of(one, other):
    """The sum of both."""
    shift = one[0]
    steps = one[3] + _raised(other, shift)
    return shift + other[0], one[1] + other[1], one[2] + other[2], steps


def _raised(automaton, shift):
    """The steps of an automaton whose states are told higher."""
    return tuple([(i + shift, letter, j + shift, weight) for i, letter, j, weight in automaton[3]])


def scaled_of(kind, factor, one):
    """The product with a weight."""
    states, starts, ends, steps = one
    return states, tuple([kind.times(factor, weight) for weight in starts]), ends, steps


def empty_weight(kind, quiet):
    """The weight of the empty word in an automaton without silent steps."""
    return ended(kind, quiet, quiet[1])


def _zeros(kind, automaton):
    return tuple([kind.zero() for _ in range(automaton[0])])


def _add_entries(kind, sums, hub, quiet, shift):
    """Add steps from a hub that begin a word: the sums of the starts times the first steps."""
    for i, letter, j, weight in quiet[3]:
        add_to(kind, sums, (hub, letter, j + shift), kind.times(quiet[1][i], weight))


def _add_exits(kind, sums, hub, quiet, ends):
    """Add steps to a hub that end a word: the sums of the last steps times the ends."""
    for i, letter, j, weight in quiet[3]:
        add_to(kind, sums, (i, letter, hub), kind.times(weight, ends[j]))


def followed_of(kind, one, other):
    """The sum over all cuts into a word of the one and a word of the other.

    Between the states of both stands a hub, where the one has ended and the other hasn't begun.
    """
    first = still_of(kind, one)
    second = still_of(kind, other)
    hub = first[0]
    sums = {(i, letter, j): weight for i, letter, j, weight in first[3] + _raised(second, hub + 1)}
    _add_exits(kind, sums, hub, first, first[2])
    _add_entries(kind, sums, hub, second, hub + 1)
    starts = first[1] + (empty_weight(kind, first),) + _zeros(kind, second)
    ends = _zeros(kind, first) + (empty_weight(kind, second),) + second[2]
    return trim_of(kind, (hub + 1 + second[0], starts, ends, steps_of(kind, sums)))


def repeated_of(kind, quiet, turns):
    """The sum over all cuts into pieces, none empty, with the turns of the empty word between all.

    Behind the states stands a hub, where a piece has ended and none has begun.
    """
    hub = quiet[0]
    ends = [kind.times(end, turns) for end in quiet[2]]
    sums = {(i, letter, j): weight for i, letter, j, weight in quiet[3]}
    _add_exits(kind, sums, hub, quiet, ends)
    _add_entries(kind, sums, hub, quiet, 0)
    for i, letter, j, weight in quiet[3]:
        # A piece of one letter begins and ends by one step.
        add_to(kind, sums, (hub, letter, hub), kind.times(quiet[1][i], kind.times(weight, ends[j])))
    zeros = _zeros(kind, quiet)
    return trim_of(kind, (hub + 1, zeros + (turns,), zeros + (kind.one(),), steps_of(kind, sums)))
