"""A room by the words of points 20 and 21 alone, and expressions with names, that several tests share."""

from tests.expressions import inner, lacks_star, random_expression, size
from tests.samples import refusal

NAMES = ["x", "y", "z", "one", "name", "put"]


def named_expression(numbers, made, alphabet, parts, names, weights=None):
    """An expression of about so many parts, in which some letters have become names."""
    def changed(part):
        if part[0] == "letter" and names and numbers.below(2):
            return "name", numbers.one_of(names)
        told = [changed(within) for within in inner(part)]
        return part[:len(part) - len(told)] + tuple(told)
    return changed(random_expression(numbers, made, alphabet, parts, weights=weights))


def text_parts(expression):
    """All parts in the order of the text."""
    told = [expression]
    for part in inner(expression):
        told.extend(text_parts(part))
    return told


def names_of(expression):
    """The names in the order of the text."""
    return [part[1] for part in text_parts(expression) if part[0] == "name"]


def put_in(expression, kept):
    """An expression with all names put in, however often; none of them rests on itself."""
    if expression[0] == "name":
        return put_in(kept[expression[1]], kept)
    told = [put_in(part, kept) for part in inner(expression)]
    return expression[:len(expression) - len(told)] + tuple(told)


def rests_on(name, kept):
    """All names on which one rests."""
    found, waiting = set(), [name]
    while waiting:
        for other in names_of(kept.get(waiting.pop(), ("one",))):
            if other not in found:
                found.add(other)
                waiting.append(other)
    return found


def fault(ring, name, kept):
    """Why a name's plainer expression is none, or None."""
    if any(other in rests_on(other, kept) for other in rests_on(name, kept) | {name}):
        return "Round"
    plainer = put_in(kept[name], kept)
    many, deep = size(plainer)
    if many > 300 or deep > 60:
        return "TooDeep"
    return "NoStar" if lacks_star(ring, plainer) else None


class Model:
    """What a room does, kept as lists of all that was."""

    def __init__(self, ring):
        self.ring, self.kept, self.past, self.future, self.log = ring, {}, [], [], []

    def put_on(self, kept, name, expression, anew):
        """The names behind a put, or the refusal's word and what it tells."""
        if not is_name(name):
            return "BadName", None
        if expression is None:
            return "BadExpression", None
        if name in kept and not anew:
            return "Taken", (name,)
        for other in names_of(expression):
            if other != name and other not in kept:
                return "NoName", (other,)
        then = {**kept, name: expression}
        if name in rests_on(name, then):
            return "Round", None
        for other in then:
            what = fault(self.ring, other, then)
            if what is not None:
                return what, (other,) if what == "TooDeep" else None
        return None, then

    def drop_on(self, kept, name):
        """The names behind a drop."""
        if not is_name(name) or name not in kept:
            return "NoName", (name,)
        users = tuple(other for other in kept if name in names_of(kept[other]))
        return ("InUse", (users,)) if users else (None, {other: kept[other] for other in kept if other != name})

    def one(self, kept, deed):
        """The names behind a deed, which the log tells."""
        word = "drop" if deed[0] == "drop" else "put"
        name = deed[1] if is_name(deed[1]) else ""
        self.log.append(("begin", word, name))
        told = self.drop_on(kept, deed[1]) if word == "drop" else self.put_on(kept, deed[1], deed[2], deed[0] == "anew")
        self.log.append(("end", word, name, "done" if told[0] is None else "refused"))
        return told

    def do(self, deed):
        """Do a deed; tell the refusal's word, and what it tells."""
        if deed[0] in ("undo", "redo"):
            return self.back(deed[0])
        if deed[0] == "together":
            return self.together(deed[1])
        return self.done(*self.one(self.kept, deed))

    def done(self, what, told):
        """Keep what a deed that was done has led to."""
        if what is not None:
            return what, told
        self.past.append(self.kept)
        self.future, self.kept = [], told
        return None, None

    def together(self, deeds):
        """Do a row of deeds, or none."""
        self.log.append(("begin", "together", ""))
        what, kept = None, self.kept
        for deed in deeds:
            what, told = self.one(kept, deed)
            if what is not None:
                break
            kept = told
        self.log.append(("end", "together", "", "done" if what is None else "refused"))
        return self.done(what, kept if what is None else told)

    def back(self, word):
        """Undo or redo."""
        first, second = (self.past, self.future) if word == "undo" else (self.future, self.past)
        self.log += [("begin", word, ""), ("end", word, "", "done" if first else "refused")]
        if not first:
            return "Nothing", None
        second.append(self.kept)
        self.kept = first.pop()
        return None, None


def is_name(thing):
    """Whether a thing is a name."""
    return type(thing) is str and 1 <= len(thing) <= 8 and all("a" <= sign <= "z" for sign in thing)


def did(room, deed):
    """Do a deed in a room; its refusal and fields, or None."""
    if deed[0] in ("undo", "redo"):
        return refusal(room.undo if deed[0] == "undo" else room.redo)
    if deed[0] == "together":
        return refusal(room.together, deed[1])
    if deed[0] == "drop":
        return refusal(room.drop, deed[1])
    return refusal(room.put, deed[1], deed[2], anew=deed[0] == "anew")
