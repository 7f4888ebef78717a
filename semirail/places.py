"""Automata of expressions: of plain ones by the places of their letters, and of all."""

from semirail.errors import BadExpression
from semirail.expressions import is_plain, need_expression
from semirail.parts import in_order, inner_of, numbered
from semirail.shapes import shape_of
from semirail.spots import Spots


def placed(expression, *, ring, alphabet):
    """An automaton with a state for each letter of a plain expression, and one at which all words begin."""
    need_expression(expression, ring=ring, alphabet=alphabet)
    if not is_plain(expression):
        raise BadExpression("not a plain expression")
    kind = ring.kind()
    spots = Spots(kind)
    waiting = []
    for part in in_order(expression):
        at = len(waiting) - len(inner_of(part))
        told = spots.of_part(part, waiting[at:])
        waiting = waiting[:at] + [told]
    return spots.automaton(waiting[0])


def automaton_of(expression, *, ring, alphabet):
    """An automaton of the same weights as an expression."""
    need_expression(expression, ring=ring, alphabet=alphabet)
    rows = numbered(expression)
    return shape_of(ring.kind(), rows, len(rows) - 1)
