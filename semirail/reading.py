"""How expressions, automata and rooms are read: just the texts that are written so."""

from semirail.errors import BadLine
from semirail.limits import MOST
from semirail.needs import need_both
from semirail.parts import head_form
from semirail.ringof import ring_in
from semirail.room import room_of
from semirail.words import is_alphabet, is_letter, is_name, is_whole, number_in, rows_of

_DEEPEST = 100
_SECTIONS = ("start", "end", "step")


def _need_rows(text):
    if not isinstance(text, str):
        raise BadLine(0)
    return rows_of(text)


def expression_in(text, *, ring, alphabet):
    """The expression whose text it is."""
    need_both(ring, alphabet)
    rows = _need_rows(text)
    told = expression_of_words(ring, alphabet, rows[0], False) if len(rows) == 1 and rows[0] is not None else None
    if told is None:
        raise BadLine(1)
    return told


def expression_of_words(ring, alphabet, words, named):
    """The expression that a list of words writes, with names in it where that is told; None of none."""
    begun = []
    told = None
    at = 0
    parts = 0
    while told is None:
        front = _front_of(ring, alphabet, words[at:at + 2], named)
        parts += 1
        if front is None or parts > MOST or len(begun) == _DEEPEST:
            return None
        at += len(front)
        begun.append([front, head_form(front[0]).count("e")])
        told = _ended(begun)
    return told if at == len(words) else None


def _front_of(ring, alphabet, words, named):
    """The first word of an expression and what else stands ahead of those in it, or None."""
    form = head_form(words[0]) if words else None
    if form is None or form[:1] in ("", "e"):
        return None if form is None else (words[0],)
    worth = _worth_in(ring, alphabet, form[0], words[1], named) if len(words) == 2 else None
    return None if worth is None else (words[0], worth)


def _worth_in(ring, alphabet, sign, word, named):
    """The letter, the weight or the name that a word is, or None."""
    if sign == "w":
        return ring.worth(word)
    if sign == "n":
        return word if named and is_name(word) else None
    return word if is_letter(word) and word in alphabet else None


def _ended(begun):
    """Put each that lacks nothing more into the one ahead of it; the whole is told once it lacks nothing, or None."""
    while begun[-1][1] == 0:
        told = begun.pop()[0]
        if not begun:
            return told
        begun[-1] = [(*begun[-1][0], told), begun[-1][1] - 1]
    return None


def automaton_in(text, *, ring, alphabet):
    """The automaton whose text it is."""
    need_both(ring, alphabet)
    rows = _need_rows(text)
    states = _states_in(rows[0])
    if states is None:
        raise BadLine(1)
    told = ([ring.zero() for _ in range(states)], [ring.zero() for _ in range(states)], [])
    latest = (-1,)
    for at, words in enumerate(rows[1:]):
        key, weight = (None, None) if words is None else _line_in(ring, alphabet, states, words)
        if key is None or key <= latest:
            raise BadLine(at + 2)
        latest = key
        if _SECTIONS[key[0]] == "step":
            told[2].append((*key[1:], weight))
        else:
            told[key[0]][key[1]] = weight
    return states, tuple(told[0]), tuple(told[1]), tuple(told[2])


def _states_in(words):
    if words is None or len(words) != 2 or words[0] != "states":
        return None
    number = number_in(words[1])
    return number if number is not None and number >= 0 else None


def _line_in(ring, alphabet, states, words):
    """By what the lines behind the first one rise, and the weight of one; both None where it can't stand there."""
    if words[0] not in _SECTIONS or len(words) != (5 if words[0] == "step" else 3):
        return None, None
    weight = ring.worth(words[-1])
    numbers = [number_in(word) for word in words[1:-1:2]]
    if weight is None or not all([is_whole(number, 0, states - 1) for number in numbers]):
        return None, None
    section = _SECTIONS.index(words[0])
    if words[0] != "step":
        return (None, None) if weight == ring.zero() else ((section, numbers[0]), weight)
    letter = _letter_in(ring, alphabet, words[2])
    return (None, None) if letter is None else ((section, numbers[0], letter, numbers[1]), weight)


def _letter_in(ring, alphabet, word):
    """The letter of a step, empty of a silent one, or None."""
    if word == "-":
        return "" if ring.is_closed() else None
    return word if is_letter(word) and word in alphabet else None


def room_in(text):
    """The room whose text it is."""
    rows = _need_rows(text)
    if rows[0] is None or rows[0][0] != "ring":
        raise BadLine(1)
    ring = ring_in(" ".join(rows[0][1:]))
    if len(rows) == 1 or rows[1] is None or len(rows[1]) != 2 or rows[1][0] != "letters" or not is_alphabet(rows[1][1]):
        raise BadLine(2)
    puts = [_put_in(ring, rows[1][1], words) for words in rows[2:]]
    try:
        return room_of(puts, ring=ring, alphabet=rows[1][1])
    except BadLine as refusal:
        raise BadLine(refusal.line + 2) from None


def _put_in(ring, alphabet, words):
    """The name and the expression that a line puts, with None for one that isn't there."""
    if words is None or len(words) < 2 or words[0] != "put":
        return None
    return words[1], expression_of_words(ring, alphabet, words[2:], True)
