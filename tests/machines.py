"""Machines that look like chance, and what they are by other ways, that several tests share."""

from semirail.machines import Machine
from semirail.ringof import ring_of
from tests.samples import weights_of


def random_machine(numbers, made, alphabet, states, weights=None):
    """A machine of so many states."""
    weights = weights_of(made) if weights is None else weights
    moves = tuple(tuple(numbers.below(states) for _ in alphabet) for _ in range(states))
    return Machine(ring_of(made), alphabet, tuple(numbers.one_of(weights) for _ in range(states)), moves)


def led_to(machine, word, state=0):
    """The state to which a word leads from one."""
    for letter in word:
        state = machine.moves()[state][machine.alphabet().index(letter)]
    return state


def first_words(machine):
    """For each state to which some word leads the first one, in the order of these."""
    told = {0: ""}
    latest = [""]
    while latest:
        then = []
        for word in latest:
            for letter in machine.alphabet():
                if led_to(machine, word + letter) not in told:
                    told[led_to(machine, word + letter)] = word + letter
                    then.append(word + letter)
        latest = then
    return told


def behind(machine, state, words):
    """What some words give from a state on."""
    return [machine.ends()[led_to(machine, word, state)] for word in words]


def parting(one, i, other, j, most):
    """The first word, of at most so many letters, that gives not the same from a state of each, or None."""
    pairs = [(i, j, "")]
    for _ in range(most + 1):
        for state, then, word in pairs:
            if one.ends()[state] != other.ends()[then]:
                return word
        pairs = [(led_to(one, letter, state), led_to(other, letter, then), word + letter)
                 for state, then, word in pairs for letter in one.alphabet()]
        seen = {}
        for state, then, word in pairs:
            seen.setdefault((state, then), word)
        pairs = [key + (word,) for key, word in seen.items()]
    return None


def told_apart(machine):
    """The least machine by words of up to as many letters as there are states that tell states apart."""
    firsts = first_words(machine)
    kinds = []
    for state in firsts:
        if all(parting(machine, state, machine, other, len(machine)) is not None for other in kinds):
            kinds.append(state)
    numbers = {state: at for state in firsts for at, other in enumerate(kinds)
               if parting(machine, state, machine, other, len(machine)) is None}
    moves = tuple(tuple(numbers[then] for then in machine.moves()[state]) for state in kinds)
    return Machine(machine.ring(), machine.alphabet(), tuple(machine.ends()[state] for state in kinds), moves)
