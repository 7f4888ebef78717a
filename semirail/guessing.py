"""A table of what is told of words' weights, and the machine that it lets one guess.

The heads are words that lead to the states: some tail behind them parts each two, so there are never more of
them than the least machine has states. A guess is looked at by all that has been told ahead of being made: what
it doesn't give leads to a tail that parts one more state, and if it gives all no two of its states are alike.
"""


class Guess:
    """What is told of words over an alphabet, and what it comes to."""

    def __init__(self, alphabet):
        self._alphabet = alphabet
        self._told = {}
        self._heads = [""]
        self._tails = [""]
        self._moves = []
        self._example = None

    def tell(self, word, weight):
        """Keep the weight of a word."""
        self._told[word] = weight

    def knows(self, word):
        """Whether the weight of a word has been told."""
        return word in self._told

    def ends(self):
        """The ends of the guessed machine."""
        return tuple([self._told[head] for head in self._heads])

    def moves(self):
        """The moves of the guessed machine."""
        return tuple([tuple(row) for row in self._moves])

    def lacking(self):
        """A list of words whose weights are still lacking; with none left a machine can be guessed."""
        while True:
            words = self._unfilled() if self._example is None else self._unsearched()
            if words:
                return words
            if self._example is not None:
                self._example = None
            elif not self._grown():
                self._example = self._unlike()
                if self._example is None:
                    return []

    def _unfilled(self):
        """The words of the table that haven't been told: each head, and each letter behind it, with each tail."""
        fronts = [head + letter for head in self._heads for letter in ["", *self._alphabet]]
        found = {front + tail: True for front in fronts for tail in self._tails}
        return [word for word in found if word not in self._told]

    def _grown(self):
        """Put in as heads the words that are parted from all heads; where there are none, find the moves."""
        places = {self._row(head): place for place, head in enumerate(self._heads)}
        moves = []
        fresh = []
        for head in self._heads:
            rows = [(head + letter, self._row(head + letter)) for letter in self._alphabet]
            for word, row in rows:
                if row not in places:
                    places[row] = len(places)
                    fresh.append(word)
            moves.append([places[row] for _, row in rows])
        self._heads.extend(fresh)
        self._moves = moves
        return len(fresh) > 0

    def _row(self, word):
        return tuple([self._told[word + tail] for tail in self._tails])

    def _states(self, word):
        """The states of the guess to which the parts of a word lead, from the empty one on."""
        places = {letter: place for place, letter in enumerate(self._alphabet)}
        states = [0]
        for letter in word:
            states.append(self._moves[states[-1]][places[letter]])
        return states

    def _given(self, word):
        """What the guess gives a word."""
        return self._told[self._heads[self._states(word)[-1]]]

    def _unlike(self):
        """A shortest word whose told weight the guess doesn't give, or None."""
        words = [word for word, weight in self._told.items() if weight != self._given(word)]
        return min(words, key=len) if words else None

    def _unsearched(self):
        """The word that is lacking to find where the example goes wrong; where none is, its tail is put in.

        The head for a part of the example, with the rest behind it, weighs as is told where the part is
        empty, and as the guess gives where it is all: somewhere one letter more makes it wrong.
        """
        word = self._example
        states = self._states(word)
        wrong = self._given(word)
        low, high = 0, len(word)
        while high - low > 1:
            middle = (low + high) // 2
            asked = self._heads[states[middle]] + word[middle:]
            if asked not in self._told:
                return [asked]
            if self._told[asked] == wrong:
                high = middle
            else:
                low = middle
        self._tails.append(word[high:])
        return []
