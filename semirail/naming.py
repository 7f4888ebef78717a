"""Expressions with names in them: which names stand there, how great they are, and what is put in for names."""

from semirail.expressions import is_part
from semirail.limits import DEEP, MOST
from semirail.parts import in_order, inner_of

# One that is built of the same tuples over and over may have more parts than can be walked through. One with
# so many is too great, and only its first parts are looked at.
_WALKED = 100000


def names_in(ring, alphabet, thing):
    """A list of the names in an expression, in the order of its text, each once; None of what is none."""
    names = {}
    waiting = [thing]
    walked = 0
    while waiting and walked < _WALKED:
        part = waiting.pop()
        if not is_part(ring, alphabet, part, True):
            return None
        if part[0] == "name":
            names[part[1]] = True
        waiting.extend(inner_of(part)[::-1])
        walked += 1
    return list(names)


def rest_order(inner):
    """The names of a dict of lists of names, each behind those on which it rests.

    Names that aren't in the dict don't count; those that rest on themselves, or on one that does, are left out.
    """
    users = {name: [] for name in inner}
    lacking = {}
    for name, others in inner.items():
        within = [other for other in others if other in inner]
        lacking[name] = len(within)
        for other in within:
            users[other].append(name)
    order = [name for name, many in lacking.items() if many == 0]
    done = 0
    while done < len(order):
        latest = order[done]
        for user in users[latest]:
            lacking[user] -= 1
            if lacking[user] == 0:
                order.append(user)
        done += 1
    return order


def size_of(expression, sizes):
    """How many parts, and how deep, an expression is with those put in whose sizes are told by their names.

    None where that is more than MOST or DEEP, or where the size of one in it is None.
    """
    parts = 0
    deepest = 0
    waiting = [(expression, 1)]
    while waiting:
        part, deep = waiting.pop()
        size = sizes[part[1]] if part[0] == "name" else (1, 1)
        if size is None:
            return None
        parts += size[0]
        deepest = max(deepest, deep + size[1] - 1)
        if parts > MOST or deepest > DEEP:
            return None
        waiting.extend([(inner, deep + 1) for inner in inner_of(part)[::-1]])
    return parts, deepest


def plainer_of(expression, plainer):
    """An expression with others put in for its names, as a dict has them."""
    waiting = []
    for part in in_order(expression):
        at = len(waiting) - len(inner_of(part))
        if part[0] == "name":
            told = plainer[part[1]]
        else:
            told = part[:len(part) - len(waiting) + at] + tuple(waiting[at:])
        waiting = waiting[:at] + [told]
    return waiting[0]
