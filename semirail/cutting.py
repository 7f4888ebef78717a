"""Weights of words by cutting them, for expressions that are numbered rows.

First each row is told, from the whole on, of which words those rows ask in which it stands; then each tells its
weights of these, from the smallest rows on.
"""

from semirail.bare import add_to, weight_of
from semirail.errors import NoStar
from semirail.shapes import shape_of

# Words of more letters are dealt out by an automaton: there are too many ways.
_DEALT = 8


def _asks_same(worth, words):
    return words, words


def _asks_cuts(worth, words):
    ahead = {}
    behind = {}
    for word in words:
        # What is there already came with a longer word, and so did its own parts.
        if word not in ahead:
            ahead.update({word[:at]: True for at in range(len(word) + 1)})
        if word not in behind:
            behind.update({word[at:]: True for at in range(len(word) + 1)})
    return list(ahead), list(behind)


def _asks_pieces(worth, words):
    found = {"": True}
    for word in words:
        if word not in found:
            found.update({word[at:end]: True for at in range(len(word)) for end in range(at + 1, len(word) + 1)})
    return list(found), []


def _asks_turned(worth, words):
    return [word[::-1] for word in words], []


def _asks_longer(worth, words):
    return [worth + word for word in words], []


def _asks_dealt(worth, words):
    found = {}
    for word in words:
        if len(word) <= _DEALT:
            found.update({hand: True for hand, _ in _dealings(word)})
    return list(found), list(found)


_ASKS = {
    "scaled": _asks_same,
    "added": _asks_same,
    "followed": _asks_cuts,
    "repeated": _asks_pieces,
    "met": _asks_same,
    "turned": _asks_turned,
    "shuffled": _asks_dealt,
    "left": _asks_longer,
}


def _dealings(word):
    """All ways to deal a word's places to two: a list of pairs of words."""
    pairs = [("", "")]
    for letter in word:
        pairs = [(one + letter, other) for one, other in pairs] + [(one, other + letter) for one, other in pairs]
    return pairs


def _asked(rows, words):
    """For each row the words of which its weights are asked, the longer ahead."""
    asked = [{} for _ in rows]
    asked[-1].update({word: True for word in words})
    for number in reversed(range(len(rows))):
        head, worth, left, right = rows[number]
        if left is not None:
            asks = _ASKS[head]
            ahead, behind = asks(worth, _longer_first(asked[number]))
            asked[left].update({word: True for word in ahead})
            if right is not None:
                asked[right].update({word: True for word in behind})
    return [_longer_first(found) for found in asked]


def _longer_first(words):
    return sorted(list(words), key=lambda word: -len(word))


def weights_by_cuts(kind, rows, words):
    """The weights that the last row gives to some words, but those of zero; NoStar where a star isn't there."""
    told = []
    for number, asked in enumerate(_asked(rows, words)):
        weights = _weights(kind, rows, number, told, asked)
        told.append({word: weight for word, weight in weights.items() if weight != kind.zero()})
    return told[-1]


def _weights(kind, rows, number, told, words):
    """The weights that a row gives to some words, by those of the rows in it."""
    head, worth, left, right = rows[number]
    if head == "one":
        return {"": kind.one()}
    if head == "letter":
        return {worth: kind.one()}
    if head == "scaled":
        return {word: kind.times(worth, weight) for word, weight in told[left].items()}
    if head == "added":
        return _sums(kind, told[left], told[right])
    if head == "followed":
        return _joined(kind, told[left], told[right], words)
    if head == "repeated":
        return _repeated(kind, told[left], words)
    if head == "met":
        return {word: kind.times(weight, told[right][word]) for word, weight in told[left].items()
                if word in told[right]}
    if head == "turned":
        return {word[::-1]: weight for word, weight in told[left].items()}
    if head == "shuffled":
        return _shuffled(kind, rows, number, told, words)
    if head == "left":
        return {word: told[left][worth + word] for word in words if worth + word in told[left]}
    return {}


def _sums(kind, first, second):
    told = {word: weight for word, weight in first.items()}
    for word, weight in second.items():
        add_to(kind, told, word, weight)
    return told


def _joined(kind, first, second, words):
    told = {}
    for word in words:
        for at in range(len(word) + 1):
            if word[:at] in first and word[at:] in second:
                add_to(kind, told, word, kind.times(first[word[:at]], second[word[at:]]))
    return told


def _repeated(kind, inner, words):
    """The sums over cuts into pieces, none empty, by the first piece and what is told of the rest."""
    turns = kind.star(inner.get("", kind.zero()))
    if turns is None:
        raise NoStar("the empty word's weight has no star")
    told = {"": turns}
    for word in words:
        for start in reversed(range(len(word))):
            if word[start:] not in told:
                told[word[start:]] = kind.times(turns, _by_first_piece(kind, inner, told, word[start:]))
    return told


def _by_first_piece(kind, inner, told, word):
    total = kind.zero()
    for at in range(1, len(word) + 1):
        if word[:at] in inner:
            total = kind.plus(total, kind.times(inner[word[:at]], told[word[at:]]))
    return total


def _shuffled(kind, rows, number, told, words):
    _, _, left, right = rows[number]
    sums = {}
    for word in words:
        if len(word) <= _DEALT:
            for one, other in _dealings(word):
                if one in told[left] and other in told[right]:
                    add_to(kind, sums, word, kind.times(told[left][one], told[right][other]))
    longer = [word for word in words if len(word) > _DEALT]
    if longer:
        automaton = shape_of(kind, rows, number)
        sums.update({word: weight_of(kind, automaton, word) for word in longer})
    return sums
