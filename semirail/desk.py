"""A desk of a room: lines that are asked, each answered by a text."""

from semirail.errors import InUse, NoName, NoStar, NotFew, Nothing, Round, Taken, TooDeep, TooMany
from semirail.reading import expression_of_words, room_in
from semirail.texts import room_text
from semirail.words import is_name, is_word, rows_of

# What stands behind the first word of a line: names, a word, and at the end an expression.
_FORMS = {
    "put": "ne",
    "anew": "ne",
    "drop": "n",
    "undo": "",
    "redo": "",
    "weight": "nw",
    "alike": "nn",
    "least": "n",
    "rests": "n",
    "names": "",
    "room": "",
    "log": "",
    "begin": "",
    "end": "",
    "leave": "",
}

_KEPT = ("put", "anew", "drop")
_ENDING = ("end", "leave")
_BAD = "bad line"


class Desk:
    """A desk of the room whose text it is."""

    def __init__(self, text):
        self._room = room_in(text)
        self._group = None

    def say(self, line):
        """The answer to a line."""
        told = _read(self._room, line)
        if told is None:
            return _BAD
        if self._group is None:
            return _BAD if told[0] in _ENDING else self._by_itself(told)
        if told[0] in _KEPT:
            self._group.append(told)
            return "kept"
        return self._ended(told[0]) if told[0] in _ENDING else _BAD

    def _by_itself(self, told):
        """The answer to a line that stands in no group."""
        if told[0] == "begin":
            self._group = []
            return "begun"
        return _answer(self._room, told)

    def _ended(self, word):
        """The answer to the line that ends a group."""
        group = self._group
        self._group = None
        return "left" if word == "leave" else _answer(self._room, ("end", group))


def _read(room, line):
    """The first word of a line and what the words behind it tell; None of a bad line."""
    rows = rows_of(line) if isinstance(line, str) else []
    if len(rows) != 1 or rows[0] is None or rows[0][0] not in _FORMS:
        return None
    words = rows[0]
    form = _FORMS[words[0]]
    if form.endswith("e"):
        # All that stands behind the name is one expression.
        words = words[:2] + [words[2:]]
    if len(words) != len(form) + 1:
        return None
    told = [_part_in(room, sign, word) for sign, word in zip(form, words[1:])]
    return None if None in told else (words[0], *told)


def _part_in(room, sign, word):
    """The name, the word or the expression that a word, or some words, tell; None of none."""
    if sign == "e":
        return expression_of_words(room.ring(), room.alphabet(), word, True)
    if sign == "n":
        return word if is_name(word) else None
    if word == "-":
        return ""
    return word if is_word(room.alphabet(), word) else None


def _answer(room, told):
    """The answer of a room, or the word of its refusal."""
    try:
        return _asked(room, told)
    except NoName:
        return "no name"
    except Taken:
        return "taken"
    except InUse:
        return "in use"
    except Round:
        return "round"
    except NoStar:
        return "no star"
    except TooDeep:
        return "too deep"
    except Nothing:
        return "nothing"
    except NotFew:
        return "not few"
    except TooMany:
        return "too many"


def _asked(room, told):
    act = _ACTS.get(told[0])
    if act is not None:
        act(room, told)
        return "done"
    tell = _TELLS[told[0]]
    return tell(room, told) or "none"


def _put(room, told):
    room.put(told[1], told[2])


def _anew(room, told):
    room.put(told[1], told[2], anew=True)


def _drop(room, told):
    room.drop(told[1])


def _undo(room, told):
    room.undo()


def _redo(room, told):
    room.redo()


def _together(room, told):
    room.together(told[1])


def _weight(room, told):
    return room.ring().written(room.weight(told[1], told[2]))


def _alike(room, told):
    word = room.alike(told[1], told[2])
    return "yes" if word is None else f"no {_shown(word)}"


def _least(room, told):
    return str(len(room.least(told[1])))


def _rests(room, told):
    return " ".join(room.rests(told[1]))


def _names(room, told):
    return " ".join(room.names())


def _text(room, told):
    return room_text(room)


def _log(room, told):
    return "\n".join([" ".join([_shown(word) for word in row]) for row in room.log()])


def _shown(word):
    return "-" if word == "" else word


_ACTS = {
    "put": _put,
    "anew": _anew,
    "drop": _drop,
    "undo": _undo,
    "redo": _redo,
    "end": _together,
}

_TELLS = {
    "weight": _weight,
    "alike": _alike,
    "least": _least,
    "rests": _rests,
    "names": _names,
    "room": _text,
    "log": _log,
}
