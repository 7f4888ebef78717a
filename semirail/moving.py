"""What is reckoned of the ends and moves of machines that have been looked at."""


def state_behind(alphabet, moves, state, word):
    """The state to which a word leads from one."""
    places = {letter: place for place, letter in enumerate(alphabet)}
    for letter in word:
        state = moves[state][places[letter]]
    return state


def least_of(ends, moves):
    """The ends and moves of the least machine, its states in the order of the first words that lead to them."""
    order = _reached(moves)
    places = {state: place for place, state in enumerate(order)}
    onward = [[places[state] for state in moves[old]] for old in order]
    marks = _numbers([ends[old] for old in order])
    many = 0
    # States that are told apart stay so; where a round tells no more of them apart, none ever will.
    while max(marks) + 1 > many:
        many = max(marks) + 1
        marks = _numbers([(mark, *[marks[state] for state in row]) for mark, row in zip(marks, onward)])
    firsts = [marks.index(mark) for mark in range(many)]
    told = [tuple([marks[state] for state in onward[first]]) for first in firsts]
    return tuple([ends[order[first]] for first in firsts]), tuple(told)


def _reached(moves):
    """The states to which words lead, in the order of the first ones."""
    found = {0: True}
    order = [0]
    done = 0
    while done < len(order):
        latest = order[done]
        for state in moves[latest]:
            if state not in found:
                found[state] = True
                order.append(state)
        done += 1
    return order


def _numbers(things):
    """A number for each thing, the same for those that are alike, in the order in which they first come."""
    known = {}
    return [known.setdefault(thing, len(known)) for thing in things]
