"""Rows: tuples of n rests, for sums of the hidden numbers and for worlds."""

from opencalls.rests import is_rest


def is_row(p, n, thing):
    """Whether the thing, whatever it is, is a row of n rests by p."""
    return isinstance(thing, tuple) and len(thing) == n and all([is_rest(p, part) for part in thing])


def added(p, one, other):
    """The row that both rows come to, place by place."""
    return tuple([(a + b) % p for a, b in zip(one, other)])


def times(p, a, row):
    """The row taken a times."""
    return tuple([a * rest % p for rest in row])


def worth(p, row, world):
    """The rest that the row's sum comes to in the world."""
    return sum([a * b for a, b in zip(row, world)]) % p


def made_of(p, n, rows, factors):
    """The row of n rests that comes of the rows, each taken as often as its factor says."""
    total = (0,) * n
    for row, factor in zip(rows, factors):
        total = added(p, total, times(p, factor, row))
    return total
