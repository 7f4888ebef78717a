"""The rules that the tables of a ring keep."""


def _sum_turned(sums, products, things):
    a, b = things
    return sums[a][b] == sums[b][a]


def _sum_joined(sums, products, things):
    return _joined(sums, things)


def _zero(sums, products, things):
    return sums[0][things[0]] == things[0]


def _product_turned(sums, products, things):
    a, b = things
    return products[a][b] == products[b][a]


def _product_joined(sums, products, things):
    return _joined(products, things)


def _one(sums, products, things):
    return products[1][things[0]] == things[0]


def _nought(sums, products, things):
    return products[0][things[0]] == 0


def _spread(sums, products, things):
    a, b, c = things
    return products[a][sums[b][c]] == sums[products[a][b]][products[a][c]]


def _joined(table, things):
    a, b, c = things
    return table[table[a][b]][c] == table[a][table[b][c]]


_RULES = (
    ("sum turned", 2, _sum_turned),
    ("sum joined", 3, _sum_joined),
    ("zero", 1, _zero),
    ("product turned", 2, _product_turned),
    ("product joined", 3, _product_joined),
    ("one", 1, _one),
    ("nought", 1, _nought),
    ("spread", 3, _spread),
)


def first_broken(sums, products):
    """The first rule that some things break, with the least such tuple of things; None of none."""
    for rule, many, holds in _RULES:
        for things in _rows(len(sums), many):
            if not holds(sums, products, things):
                return rule, things
    return None


def _rows(size, many):
    """All tuples of so many things, rising."""
    rows = [()]
    for _ in range(many):
        rows = [(*row, thing) for row in rows for thing in range(size)]
    return rows
