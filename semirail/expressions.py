"""Expressions: what is one, which are plain, and their weights of words by cuts."""

from semirail.cutting import weights_by_cuts
from semirail.errors import BadExpression
from semirail.needs import need_both, need_word
from semirail.parts import form_of, inner_of, is_plain_head, numbered
from semirail.words import is_letter, is_name


def need_expression(thing, *, ring, alphabet):
    """Refuse what is no expression of a ring and an alphabet; whether its stars are there isn't looked at."""
    need_both(ring, alphabet)
    waiting = [thing]
    while waiting:
        part = waiting.pop()
        if not is_part(ring, alphabet, part, False):
            raise BadExpression("not an expression of this ring and alphabet")
        waiting.extend(inner_of(part))


def is_part(ring, alphabet, thing, named):
    """Whether a thing is a part of an expression, but for those in it; a name is one where that is told."""
    form = form_of(thing)
    if form is None:
        return False
    if form[:1] == "l":
        return is_letter(thing[1]) and thing[1] in alphabet
    if form[:1] == "n":
        return named and is_name(thing[1])
    return form[:1] != "w" or ring.good(thing[1])


def is_plain(thing):
    """Whether an expression has only plain parts."""
    waiting = [thing]
    while waiting:
        part = waiting.pop()
        if form_of(part) is None or not is_plain_head(part[0]):
            return False
        waiting.extend(inner_of(part))
    return True


def by_cuts(expression, word="", *, ring, alphabet):
    """The weight of a word, by its cuts, dealings and letters."""
    need_expression(expression, ring=ring, alphabet=alphabet)
    kind = ring.kind()
    rows = numbered(expression)
    # A star that isn't there is refused ahead of the word, whatever is asked.
    weights_by_cuts(kind, rows, [])
    need_word(alphabet, word)
    return weights_by_cuts(kind, rows, [word]).get(word, kind.zero())
