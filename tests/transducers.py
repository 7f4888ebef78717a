"""Transducers that look like chance, and what they weigh by other ways, that several tests share."""

from semirail.ringof import ring_of
from tests.samples import weights_of


def random_transducer(numbers, made, alphabet, states, steps, words=("", "a", "b", "ab"), weights=None):
    """A transducer of so many states, whose steps write some words."""
    weights = weights_of(made) if weights is None else weights
    found = {}
    for _ in range(steps if states else 0):
        key = (numbers.below(states), numbers.one_of(alphabet), numbers.one_of(words), numbers.below(states))
        found[key] = numbers.one_of(weights)
    told = tuple(key + (found[key],) for key in sorted(found))
    starts, ends = (tuple(numbers.one_of(weights) for _ in range(states)) for _ in range(2))
    return states, starts, ends, told


def transducer_samples(numbers, made, many, words=("", "a", "b", "ab")):
    """Some transducers, of no states, of no steps, and of some."""
    ring = ring_of(made)
    told = [(0, (), (), ()), (1, (ring.one(),), (ring.one(),), ())]
    for _ in range(many):
        told.append(random_transducer(numbers, made, "ab", 1 + numbers.below(3), numbers.below(8), words))
    return told


def listed_pairs(ring, transducer, x):
    """For each word that some row of steps writes for x its weight, by all rows listed one by one."""
    states, starts, ends, steps = transducer
    rows = [(state, "", starts[state]) for state in range(states)]
    for letter in x:
        rows = [(j, written + word, ring.times(weight, further)) for at, written, weight in rows
                for i, sign, word, j, further in steps if i == at and sign == letter]
    sums = {}
    for at, written, weight in rows:
        sums.setdefault(written, []).append(ring.times(weight, ends[at]))
    return {written: ring.total(weights) for written, weights in sums.items()}


def good_transducer(ring, alphabet, thing):
    """Whether a thing has the form of point 14."""
    states, starts, ends, steps = thing
    if not all(type(part) is tuple for part in (thing, starts, ends, steps)) or type(states) is not int:
        return False
    if len(starts) != states or len(ends) != states or not all(ring.good(weight) for weight in starts + ends):
        return False
    keys = [step[:4] for step in steps]
    return keys == sorted(set(keys)) and all(
        type(step) is tuple and len(step) == 5 and type(step[0]) is int and type(step[3]) is int
        and 0 <= step[0] < states and 0 <= step[3] < states and ring.good(step[4])
        and len(step[1]) == 1 and step[1] in alphabet and type(step[2]) is str and len(step[2]) <= 60
        and all(sign in alphabet for sign in step[2]) for step in steps)
