"""The refusals: three families, and each refusal straight under its own."""


class Refused(ValueError):
    """What is handed in isn't what is wanted. Never raised itself."""


class BadRing(Refused):
    """What is no ring, or no tuple of which one is made."""

    def __init__(self, what):
        self.what = what


class BadTable(Refused):
    """A table of a ring that breaks a rule, with the least things that break it."""

    def __init__(self, rule, things):
        self.rule = rule
        self.things = things


class BadWeight(Refused):
    """What is no weight of the ring."""

    def __init__(self, why):
        self.why = why


class BadLeading(Refused):
    """What is no leading from the ring."""

    def __init__(self, why):
        self.why = why


class BadNumber(Refused):
    """What is no whole number within its bounds."""

    def __init__(self, why):
        self.why = why


class BadWord(Refused):
    """What is no alphabet, no letter or no word."""

    def __init__(self, why):
        self.why = why


class BadWeb(Refused):
    """What is no web of the ring."""

    def __init__(self, why):
        self.why = why


class BadPath(Refused):
    """What is no path of the web."""

    def __init__(self, why):
        self.why = why


class BadAutomaton(Refused):
    """What is no automaton, or none of the wanted ones."""

    def __init__(self, why):
        self.why = why


class BadExpression(Refused):
    """What is no expression, or none of the wanted ones."""

    def __init__(self, why):
        self.why = why


class BadTransducer(Refused):
    """What is no transducer."""

    def __init__(self, why):
        self.why = why


class BadMachine(Refused):
    """What is no machine, or none of the wanted ones."""

    def __init__(self, why):
        self.why = why


class BadAnswer(Refused):
    """What is no answer to what a learner asks."""

    def __init__(self, why):
        self.why = why


class BadName(Refused):
    """What is no name."""

    def __init__(self, why):
        self.why = why


class BadDeed(Refused):
    """What is no row of deeds."""

    def __init__(self, why):
        self.why = why


class BadLine(Refused):
    """A text whose line, counted from 1, can't stand there; 0 where it is no text."""

    def __init__(self, line):
        self.line = line


class Unreckoned(ArithmeticError):
    """What is asked for can't be reckoned. Never raised itself."""


class NoStar(Unreckoned):
    """A weight whose star isn't there."""

    def __init__(self, why):
        self.why = why


class NoOrder(Unreckoned):
    """A web in which no step may be told the best one."""

    def __init__(self, step):
        self.step = step


class NotClosed(Unreckoned):
    """A ring that isn't closed where a closed one is wanted."""

    def __init__(self, why):
        self.why = why


class NotFew(Unreckoned):
    """A ring that has too many weights."""

    def __init__(self, why):
        self.why = why


class TooMany(Unreckoned):
    """More of what is asked for than the most that is wanted."""

    def __init__(self, most):
        self.most = most


class Unknown(LookupError):
    """What a room has doesn't allow the deed. Never raised itself."""


class NoName(Unknown):
    """A name that isn't there."""

    def __init__(self, name):
        self.name = name


class Taken(Unknown):
    """A name that is there already."""

    def __init__(self, name):
        self.name = name


class InUse(Unknown):
    """A name that others have in their expressions."""

    def __init__(self, users):
        self.users = users


class Round(Unknown):
    """Names of which each has the next one in it, the last one the first."""

    def __init__(self, circle):
        self.circle = circle


class TooDeep(Unknown):
    """A name whose plainer expression is too deep, or has too many parts."""

    def __init__(self, name):
        self.name = name


class Nothing(Unknown):
    """A deed where there is nothing to undo or to redo."""

    def __init__(self, why):
        self.why = why
