"""How expressions, automata and rooms are written."""

from semirail.automata import need_automaton
from semirail.expressions import need_expression
from semirail.parts import head_form, inner_of, worth_of


def expression_text(expression, *, ring, alphabet):
    """The text of an expression."""
    need_expression(expression, ring=ring, alphabet=alphabet)
    return _written(ring, expression)


def _written(ring, expression):
    """The text of an expression, perhaps with names in it."""
    words = []
    waiting = [expression]
    while waiting:
        part = waiting.pop()
        words.append(part[0])
        form = head_form(part[0])
        if form[:1] == "w":
            words.append(ring.written(part[1]))
        elif worth_of(part) is not None:
            words.append(worth_of(part))
        waiting.extend(inner_of(part)[::-1])
    return " ".join(words)


def automaton_text(automaton, *, ring, alphabet):
    """The text of an automaton."""
    need_automaton(automaton, ring=ring, alphabet=alphabet)
    states, starts, ends, steps = automaton
    lines = [f"states {states}"]
    for word, weights in (("start", starts), ("end", ends)):
        lines.extend([f"{word} {state} {ring.written(weight)}" for state, weight in enumerate(weights)
                      if weight != ring.zero()])
    lines.extend([f"step {i} {_sign(letter)} {j} {ring.written(weight)}" for i, letter, j, weight in steps])
    return "\n".join(lines)


def _sign(letter):
    return "-" if letter == "" else letter


def room_text(room):
    """The text of a room."""
    lines = [f"put {name} {_written(room.ring(), room.expression(name))}" for name in room.names()]
    return "\n".join([f"ring {room.ring()}", f"letters {room.alphabet()}", *lines])
