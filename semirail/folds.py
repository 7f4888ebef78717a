"""Sums and products of many weights, reckoned by a kind and looked at by nobody."""


def total_of(kind, weights):
    """The sum of the weights of a list."""
    told = kind.zero()
    for weight in weights:
        told = kind.plus(told, weight)
    return told


def product_of(kind, weights):
    """The product of the weights of a list."""
    told = kind.one()
    for weight in weights:
        told = kind.times(told, weight)
    return told


def many_of(kind, weight, count):
    """The sum of a weight so often, by doubles: the count may be great."""
    told = kind.zero()
    for figure in f"{count:b}":
        told = kind.plus(told, told)
        if figure == "1":
            told = kind.plus(told, weight)
    return told


def power_of(kind, weight, count):
    """The product of a weight so often, by squares: the count may be great."""
    told = kind.one()
    for figure in f"{count:b}":
        told = kind.times(told, told)
        if figure == "1":
            told = kind.times(told, weight)
    return told
