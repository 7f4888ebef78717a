"""The kinds rest and table: numbers from 0 up to a bound."""

from semirail.kinds import Counted


class Finite(Counted):
    """A kind of so many weights, numbers from 0 on, of which 0 is zero and 1 is one."""

    def __init__(self, text, size):
        Counted.__init__(self, text, 0, 1, ())
        self._size = size

    def few(self):
        """Whether automata come to not endlessly many vectors."""
        return True

    def fits(self, number):
        """Whether a whole number is a weight."""
        return 0 <= number < self._size

    def resting(self, a):
        """The sum at which those of more and more powers stay, or None."""
        met = 1
        # As many sums as there are weights: if none has stayed by then they go round.
        for _ in range(self._size):
            then = self.plus(1, self.times(a, met))
            if then == met:
                return met
            met = then
        return None

    def star(self, a):
        """The sum of all powers, or None."""
        return self.resting(a)


class Rest(Finite):
    """The rests of whole numbers divided by one."""

    def __init__(self, divisor):
        Finite.__init__(self, f"rest {divisor}", divisor)

    def plus(self, a, b):
        """The sum."""
        return (a + b) % self._size

    def times(self, a, b):
        """The product."""
        return (a * b) % self._size


class Table(Finite):
    """Weights whose sums and products stand in tables."""

    def __init__(self, sums, products):
        rows = [str(number) for row in [*sums, *products] for number in row]
        Finite.__init__(self, " ".join(["table", str(len(sums)), *rows]), len(sums))
        self._sums = sums
        self._products = products

    def plus(self, a, b):
        """The sum."""
        return self._sums[a][b]

    def times(self, a, b):
        """The product."""
        return self._products[a][b]
