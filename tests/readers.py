"""Readers of texts by the words of points 22 and 23 alone, that several tests share."""

from semirail.errors import BadLine, BadTable
from semirail.ringof import ring_in
from tests.expressions import size
from tests.rooms import fault, names_of

FORMS = {"zero": "", "one": "", "letter": "l", "scaled": "we", "added": "ee", "followed": "ee", "repeated": "e",
         "met": "ee", "turned": "e", "shuffled": "ee", "left": "le", "name": "n"}


def good_name(word):
    """Whether a word is a name."""
    return 1 <= len(word) <= 8 and all("a" <= sign <= "z" for sign in word)


def words_in(line):
    """The words of a line, or None where its blanks don't fit."""
    words = line.split(" ")
    return None if "" in words else words


def whole_number(word):
    """The whole number from 0 on that a word writes, or None."""
    return int(word) if word.isascii() and word.isdigit() and (word == "0" or word[0] != "0") else None


def read_part(words, ring, alphabet, named):
    """The expression with which some words begin, and the words behind it; None of none."""
    if not words or words[0] not in FORMS:
        return None
    told, rest = (words[0],), words[1:]
    for sign in FORMS[words[0]]:
        if sign == "e":
            found = read_part(rest, ring, alphabet, named)
            if found is None:
                return None
            part, rest = found
        else:
            if not rest:
                return None
            word, rest = rest[0], rest[1:]
            part = ring.worth(word) if sign == "w" else word
            if part is None or sign == "l" and not (len(word) == 1 and word in alphabet):
                return None
            if sign == "n" and not (named and good_name(word)):
                return None
        told += (part,)
    return told, rest


def read_expression(words, ring, alphabet, named=False):
    """The expression that some words write, or None."""
    if words is None:
        return None
    found = read_part(words, ring, alphabet, named)
    if found is None or found[1]:
        return None
    many, deep = size(found[0])
    return found[0] if many <= 300 and deep <= 100 else None


def read_automaton(text, ring, alphabet):
    """The automaton that a text writes, or the first line that can't stand there."""
    rows = [words_in(line) for line in text.split("\n")]
    first = rows[0]
    if first is None or len(first) != 2 or first[0] != "states" or whole_number(first[1]) is None:
        return 1
    states = whole_number(first[1])
    parts = {"start": {}, "end": {}, "step": {}}
    latest = None
    for at, words in enumerate(rows[1:]):
        kinds = ["start", "end", "step"]
        if words is None or words[0] not in kinds or len(words) != (5 if words[0] == "step" else 3):
            return at + 2
        numbers = [whole_number(word) for word in ([words[1], words[3]] if words[0] == "step" else [words[1]])]
        worth = ring.worth(words[-1])
        if worth is None or any(number is None or number >= states for number in numbers):
            return at + 2
        if words[0] == "step":
            letter = "" if words[2] == "-" else words[2]
            if letter == "" and not ring.is_closed() or letter and (len(letter) > 1 or letter not in alphabet):
                return at + 2
            key = (2, numbers[0], letter, numbers[1])
        else:
            key = (kinds.index(words[0]), numbers[0])
            if worth == ring.zero():
                return at + 2
        if latest is not None and not latest < key:
            return at + 2
        latest = key
        parts[words[0]][key[1:]] = worth
    starts, ends = (tuple(parts[word].get((state,), ring.zero()) for state in range(states)) for word in ("start", "end"))
    return states, starts, ends, tuple(key + (worth,) for key, worth in sorted(parts["step"].items()))


def read_room(text):
    """The ring, the letters and the names with their expressions that a text writes, or the line, or BadTable's fields."""
    rows = [words_in(line) for line in text.split("\n")]
    if rows[0] is None or rows[0][0] != "ring":
        return 1
    try:
        ring = ring_in(" ".join(rows[0][1:]))
    except BadLine:
        return 1
    except BadTable as error:
        return error.rule, error.things
    letters = rows[1][1] if len(rows) > 1 and rows[1] is not None and len(rows[1]) == 2 else ""
    if not letters or rows[1][0] != "letters" or len(letters) > 6 or list(letters) != sorted(set(letters)) \
            or not all("a" <= sign <= "z" for sign in letters):
        return 2
    put = {words[1] for words in rows if words is not None and len(words) > 1 and words[0] == "put"}
    kept = {}
    for at, words in enumerate(rows[2:]):
        if words is None or len(words) < 3 or words[0] != "put" or not good_name(words[1]) or words[1] in kept:
            return at + 3
        expression = read_expression(words[2:], ring, letters, True)
        if expression is None or not set(names_of(expression)) <= put:
            return at + 3
        kept[words[1]] = expression
    for at, name in enumerate(kept):
        if fault(ring, name, kept) is not None:
            return at + 3
    return ring, letters, kept


def changed_texts(text, words):
    """Texts in which a word, a blank, a line end or a line is changed, put in or taken out, at each place."""
    told = []
    for at, sign in enumerate(text):
        if sign in " \n":
            told += [text[:at] + other + text[at + 1:] for other in ("", " ", "\n", "  ", "\n\n", " \n", "\n ", "\t", "-")]
    lines = text.split("\n")
    for at, line in enumerate(lines):
        for rows in (lines[:at] + lines[at + 1:], lines[:at] + [line, line] + lines[at + 1:],
                     lines[:at] + [""] + lines[at:], lines[:at] + [lines[-1]] + lines[at:],
                     lines[:at] + lines[at:][::-1], lines[:at] + [line + " "] + lines[at + 1:],
                     lines[:at] + [" " + line] + lines[at + 1:]):
            told.append("\n".join(rows))
        parts = line.split(" ")
        for place, word in enumerate(parts):
            for other in [[], [word, word], *[[each] for each in words], *[[each, word] for each in words[:4]],
                          [word[:-1]], [word + "a"], [word + "0"], ["0" + word], [word.upper()]]:
                row = parts[:place] + other + parts[place + 1:]
                told.append("\n".join(lines[:at] + [" ".join(row)] + lines[at + 1:]))
    return [text + "\n", "\n" + text, text + " ", " " + text, *told]
