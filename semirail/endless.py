"""The kinds count, least, most and narrow: whole numbers, and words such as "endless" beside them."""

from semirail.kinds import Counted


class Endless(Counted):
    """A closed kind that has the weight "endless"."""

    def closed(self):
        """Whether every weight has a star, and endlessly many paths a sum."""
        return True

    def star(self, a):
        """The sum of all powers: where no sum stays, they go on endlessly."""
        told = self.resting(a)
        return "endless" if told is None else told


class Count(Endless):
    """Whole numbers from 0 on, and "endless": sum, product."""

    def __init__(self):
        Endless.__init__(self, "count", 0, 1, ("endless",))

    def plus(self, a, b):
        """The sum."""
        if a == "endless" or b == "endless":
            return "endless"
        return a + b

    def times(self, a, b):
        """The product."""
        if a == 0 or b == 0:
            return 0
        if a == "endless" or b == "endless":
            return "endless"
        return a * b

    def resting(self, a):
        """The sum at which those of more and more powers stay, or None."""
        if a == 0:
            return 1
        return "endless" if a == "endless" else None

    def beyond(self, before, after):
        """What is still to be added where sums went on though nothing new came."""
        return 0 if before == after else "endless"


class Bounded(Endless):
    """Whole numbers, "none" and "endless": the better one, the numbers' sum.

    Better is the lesser one where the sign is 1, the greater one where it is -1.
    """

    def __init__(self, text, sign):
        Endless.__init__(self, text, "none", 0, ("none", "endless"))
        self._sign = sign

    def fits(self, number):
        """Whether a whole number is a weight."""
        return True

    def plus(self, a, b):
        """The sum."""
        if a == "endless" or b == "endless":
            return "endless"
        if a == "none" or b == "none":
            return a if b == "none" else b
        return a if self._sign * a <= self._sign * b else b

    def times(self, a, b):
        """The product."""
        if a == "none" or b == "none":
            return "none"
        if a == "endless" or b == "endless":
            return "endless"
        return a + b

    def resting(self, a):
        """The sum at which those of more and more powers stay, or None."""
        if a == "endless":
            return "endless"
        return 0 if a == "none" or self._sign * a >= 0 else None

    def beyond(self, before, after):
        """What is still to be added where sums went on though nothing new came."""
        return "none" if before == after else "endless"


class Narrow(Endless):
    """Whole numbers from 0 on, and "endless" above them: the greater, the lesser."""

    def __init__(self):
        Endless.__init__(self, "narrow", 0, "endless", ("endless",))

    def few(self):
        """Whether automata come to not endlessly many vectors."""
        return True

    def plus(self, a, b):
        """The sum."""
        if a == "endless" or b == "endless":
            return "endless"
        return a if a >= b else b

    def times(self, a, b):
        """The product."""
        if a == "endless" or b == "endless":
            return a if b == "endless" else b
        return a if a <= b else b

    def resting(self, a):
        """The sum at which those of more and more powers stay: one is the top."""
        return "endless"
