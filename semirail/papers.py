"""What shows that machines are alike, or which word parts them, and that one is the least."""

from semirail.errors import BadMachine
from semirail.machines import need_machine
from semirail.moving import state_behind
from semirail.words import is_number, is_word


def _need_alike(one, other):
    """Refuse what is no machine, and two of unlike ring or alphabet."""
    need_machine(one)
    need_machine(other)
    if not one.ring() == other.ring() or one.alphabet() != other.alphabet():
        raise BadMachine("machines of unlike ring or alphabet")


def _walked(one, other):
    """The pairs of states to which words lead, in the order of the first ones, up to the first parted pair.

    Each stands with the number of the pair ahead of it and the letter, but for the first; told last is whether
    the last pair is parted.
    """
    rows = [((0, 0), None, "")]
    known = {(0, 0): True}
    done = 0
    while done < len(rows):
        i, j = rows[done][0]
        if one.ends()[i] != other.ends()[j]:
            return rows[:done + 1], True
        for letter, pair in zip(one.alphabet(), _onward(one, other, (i, j))):
            if pair not in known:
                known[pair] = True
                rows.append((pair, done, letter))
        done += 1
    return rows, False


def _onward(one, other, pair):
    """The next pairs by each letter."""
    return list(zip(one.moves()[pair[0]], other.moves()[pair[1]]))


def parted(one, other):
    """The first word to which two machines don't give the same, or None."""
    _need_alike(one, other)
    rows, apart_there = _walked(one, other)
    if not apart_there:
        return None
    letters = []
    at = len(rows) - 1
    while at != 0:
        _, ahead, letter = rows[at]
        letters.append(letter)
        at = ahead
    return "".join(letters[::-1])


def alike_paper(one, other):
    """Pairs of states that show that two machines give all words the same, or None."""
    _need_alike(one, other)
    rows, apart_there = _walked(one, other)
    return None if apart_there else [row[0] for row in rows]


def check_alike(one, other, paper):
    """Whether a paper shows that two machines give all words the same."""
    _need_alike(one, other)
    if not isinstance(paper, list) or not all([_is_pair(one, other, thing) for thing in paper]):
        return False
    known = {pair: True for pair in paper}
    if len(known) != len(paper) or paper[:1] != [(0, 0)]:
        return False
    if not all([one.ends()[i] == other.ends()[j] for i, j in paper]):
        return False
    return all([onward in known for pair in paper for onward in _onward(one, other, pair)])


def _is_pair(one, other, thing):
    return isinstance(thing, tuple) and len(thing) == 2 and _is_state(one, thing[0]) and _is_state(other, thing[1])


def _is_state(machine, thing):
    return is_number(thing) and 0 <= thing < len(machine)


def _two_by_two(machine):
    """All pairs of unlike states, the lesser one ahead, rising."""
    return [(i, j) for i in range(len(machine)) for j in range(i + 1, len(machine))]


def apart(one):
    """For each two states of a least machine the first word that parts them."""
    need_machine(one)
    if not one.least() == one:
        raise BadMachine("not a least machine")
    pairs = _two_by_two(one)
    behind = _pairs_behind(one, pairs)
    words = {(i, j): "" for i, j in pairs if one.ends()[i] != one.ends()[j]}
    latest = list(words)
    while latest:
        # By the least letter of those by which a pair comes to one of the latest words.
        found = {}
        for pair in latest:
            for place, source in behind.get(pair, []):
                if source not in words and place < found.get(source, (len(one.alphabet()), pair))[0]:
                    found[source] = (place, pair)
        words.update({source: one.alphabet()[place] + words[pair] for source, (place, pair) in found.items()})
        latest = list(found)
    return [(i, j, words[i, j]) for i, j in pairs]


def _pairs_behind(machine, pairs):
    """For each pair to which a letter leads the places of such letters, and the pairs from which they lead."""
    told = {}
    for i, j in pairs:
        for place, (state, other) in enumerate(zip(machine.moves()[i], machine.moves()[j])):
            told.setdefault((min(state, other), max(state, other)), []).append((place, (i, j)))
    return told


def check_least(one, reached, rows):
    """Whether words show that each state is reached, and each two are parted: then no machine has fewer."""
    need_machine(one)
    if not isinstance(reached, list) or len(reached) != len(one):
        return False
    if not all([_leads(one, word, state) for state, word in enumerate(reached)]):
        return False
    pairs = _two_by_two(one)
    if not isinstance(rows, list) or len(rows) != len(pairs):
        return False
    return all([_parts(one, row, pair) for row, pair in zip(rows, pairs)])


def _leads(machine, word, state):
    if not is_word(machine.alphabet(), word, long=None):
        return False
    return state_behind(machine.alphabet(), machine.moves(), 0, word) == state


def _parts(machine, row, pair):
    """Whether a row has a pair of states and a word that parts them."""
    if not isinstance(row, tuple) or len(row) != 3 or not is_number(row[0]) or not is_number(row[1]):
        return False
    if row[:2] != pair or not is_word(machine.alphabet(), row[2], long=None):
        return False
    one, other = [state_behind(machine.alphabet(), machine.moves(), state, row[2]) for state in pair]
    return machine.ends()[one] != machine.ends()[other]
