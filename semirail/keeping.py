"""Named expressions that rest on one another. A deed leaves them as they are and makes others of them."""

from semirail.cutting import weights_by_cuts
from semirail.errors import BadExpression, BadLine, BadName, InUse, NoName, NoStar, Round, Taken, TooDeep
from semirail.naming import names_in, plainer_of, rest_order, size_of
from semirail.parts import numbered
from semirail.words import is_name


class Entry:
    """An expression as it was put, the names in it, and what it comes to without names."""

    def __init__(self, expression, inner, plainer, size):
        self._expression = expression
        self._inner = inner
        self._plainer = plainer
        self._size = size

    def expression(self):
        """The expression as it was put."""
        return self._expression

    def inner(self):
        """The names that stand in it."""
        return self._inner

    def plainer(self):
        """The expression with those of its names put in."""
        return self._plainer

    def size(self):
        """How many parts the plainer one has, and how deep it is."""
        return self._size


class Keeping:
    """The entries of names, in the order in which they were put."""

    def __init__(self, ring, alphabet, entries):
        self._ring = ring
        self._alphabet = alphabet
        self._entries = entries

    def names(self):
        """A list of the names."""
        return list(self._entries)

    def rows(self):
        """A list of the names, each with its expression as it was put."""
        return [(name, entry.expression()) for name, entry in self._entries.items()]

    def entry(self, name):
        """The entry of a name; NoName of what is none that is there."""
        if not isinstance(name, str) or name not in self._entries:
            raise NoName(name)
        return self._entries[name]

    def with_put(self, name, expression, anew):
        """The names with an expression put."""
        if not is_name(name):
            raise BadName("not a name")
        inner = names_in(self._ring, self._alphabet, expression)
        if inner is None:
            raise BadExpression("not an expression of this ring and alphabet")
        if name in self._entries and not anew:
            raise Taken(name)
        for other in inner:
            if other != name and other not in self._entries:
                raise NoName(other)
        circle = self._circle(name, inner)
        if circle is not None:
            raise Round(circle)
        texts = {user: self._text(user) for user in self._users_over(name)}
        texts[name] = (expression, inner)
        entries = _settled(texts, self._entries)
        for other, entry in entries.items():
            if other in texts:
                if entry is None:
                    raise TooDeep(other)
                _need_stars(self._ring, entry)
        return Keeping(self._ring, self._alphabet, entries)

    def _text(self, name):
        entry = self._entries[name]
        return entry.expression(), entry.inner()

    def _circle(self, name, inner):
        """Names from one on, each with the next one in it, if it would rest on itself with these in it; or None."""
        ahead = {other: None for other in inner}
        waiting = list(inner)
        done = 0
        while done < len(waiting) and name not in ahead:
            user = waiting[done]
            for other in self._entries[user].inner():
                if other not in ahead:
                    ahead[other] = user
                    waiting.append(other)
            done += 1
        if name not in ahead:
            return None
        circle = [name]
        while ahead[circle[-1]] is not None:
            circle.append(ahead[circle[-1]])
        return (name, *circle[:0:-1])

    def _users_over(self, name):
        """The names that rest on one, straight or by others."""
        users = {}
        for other, entry in self._entries.items():
            for within in entry.inner():
                users.setdefault(within, []).append(other)
        return _reached(name, users)

    def without(self, name):
        """The names without one."""
        self.entry(name)
        users = tuple([other for other, entry in self._entries.items() if name in entry.inner()])
        if users:
            raise InUse(users)
        entries = {other: entry for other, entry in self._entries.items() if other != name}
        return Keeping(self._ring, self._alphabet, entries)

    def rests(self, name):
        """The names on which one rests, straight or by others, in order."""
        self.entry(name)
        found = _reached(name, {other: entry.inner() for other, entry in self._entries.items()})
        return [other for other in self._entries if other in found]


def _reached(name, ways):
    """A dict of the names to which some ways lead from one."""
    found = {}
    waiting = [name]
    while waiting:
        latest = waiting.pop()
        for other in ways.get(latest, []):
            if other not in found:
                found[other] = True
                waiting.append(other)
    return found


def _settled(texts, entries):
    """The entries with those made anew whose expressions, and the names in them, are told.

    None stands for one that is too great, or rests on itself, or has such a one in it.
    """
    told = {name: entry for name, entry in entries.items()}
    told.update({name: None for name in texts})
    for name in rest_order({name: inner for name, (_, inner) in texts.items()}):
        expression, inner = texts[name]
        within = {other: told[other] for other in inner}
        size = size_of(expression, {other: None if entry is None else entry.size() for other, entry in within.items()})
        if size is not None:
            plainer = plainer_of(expression, {other: entry.plainer() for other, entry in within.items()})
            told[name] = Entry(expression, inner, plainer, size)
    return told


def _need_stars(ring, entry):
    """Refuse what lacks a star, wherever it stands."""
    if not ring.is_closed():
        weights_by_cuts(ring.kind(), numbered(entry.plainer()), [])


def keeping_of(ring, alphabet, rows):
    """The names of a list of pairs of names and expressions, all of them there from the first on."""
    if not isinstance(rows, list):
        raise BadLine(0)
    there = {row[0]: True for row in rows if _has_name(row)}
    texts = {}
    for at, row in enumerate(rows):
        inner = names_in(ring, alphabet, row[1]) if _has_name(row) else None
        if inner is None or row[0] in texts or not all([name in there for name in inner]):
            raise BadLine(at + 1)
        texts[row[0]] = (row[1], inner)
    entries = _settled(texts, {})
    for at, entry in enumerate(list(entries.values())):
        if entry is None or _lacks_star(ring, entry):
            raise BadLine(at + 1)
    return Keeping(ring, alphabet, entries)


def _has_name(row):
    return isinstance(row, tuple) and len(row) == 2 and is_name(row[0])


def _lacks_star(ring, entry):
    try:
        _need_stars(ring, entry)
    except NoStar:
        return True
    return False
