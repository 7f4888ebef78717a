"""The parts of which an expression is built, looked at without functions that call themselves.

Expressions may be a hundred deep, and those that rests tell a little deeper.
"""

# What stands behind the first word of each: a letter, a weight, a name, expressions.
_FORMS = {
    "zero": "",
    "one": "",
    "letter": "l",
    "scaled": "we",
    "added": "ee",
    "followed": "ee",
    "repeated": "e",
    "met": "ee",
    "turned": "e",
    "shuffled": "ee",
    "left": "le",
    "name": "n",
}

_PLAIN = ("zero", "one", "letter", "scaled", "added", "followed", "repeated")


def head_form(head):
    """What stands behind a first word, one sign for each: l, w, n or e; None of what is no first word."""
    return _FORMS.get(head) if isinstance(head, str) else None


def form_of(thing):
    """What stands behind the first word of a part; None of what is no part."""
    if not isinstance(thing, tuple) or len(thing) == 0:
        return None
    form = head_form(thing[0])
    return form if form is not None and len(form) + 1 == len(thing) else None


def is_plain_head(head):
    """Whether a first word is that of a plain part."""
    return head in _PLAIN


def inner_of(part):
    """The expressions that stand straight in a part."""
    return [thing for thing, sign in zip(part[1:], _FORMS[part[0]]) if sign == "e"]


def worth_of(part):
    """The letter, the weight or the name that stands in a part, or None."""
    return None if _FORMS[part[0]][:1] in ("", "e") else part[1]


def in_order(expression):
    """A list of all parts, each behind those that stand in it, the left ones ahead."""
    told = []
    waiting = [expression]
    while waiting:
        part = waiting.pop()
        told.append(part)
        waiting.extend(inner_of(part))
    return list(reversed(told))


def numbered(expression):
    """Rows (HEAD, WORTH, LEFT, RIGHT), one for all parts that are alike, each behind those in it.

    LEFT and RIGHT are numbers of rows, or None; the last row is that of the whole.
    """
    rows = []
    places = {}
    waiting = []
    for part in in_order(expression):
        many = len(inner_of(part))
        right = waiting.pop() if many == 2 else None
        left = waiting.pop() if many > 0 else None
        row = (part[0], worth_of(part), left, right)
        if row not in places:
            places[row] = len(rows)
            rows.append(row)
        waiting.append(places[row])
    return rows


def below(rows, number):
    """The rising list of the numbers of a row and of all rows in it."""
    found = {}
    waiting = [number]
    while waiting:
        place = waiting.pop()
        if place is not None and place not in found:
            found[place] = True
            waiting.extend(rows[place][2:])
    return sorted(list(found))
