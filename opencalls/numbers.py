"""The rows of a room, and the worlds alike for it, by their numbers."""

from opencalls.rooms import across, first_place, within
from opencalls.rows import added, made_of, worth


def figures(p, size, number):
    """The number written by p with so many figures, the first of which counts most."""
    written = []
    while len(written) < size:
        written.append(number % p)
        number = number // p
    return tuple(reversed(written))


def row_at(p, n, room, number):
    """The row of the room whose factors of the plain rows are the figures of the number."""
    return made_of(p, n, room, figures(p, len(room), number))


def number_of(p, room, row):
    """The number at which row_at tells the row; None where the room hasn't it."""
    if not within(p, room, row):
        return None
    number = 0
    for plain in room:
        # No other plain row has anything at this place, so what the row has there is the factor.
        number = number * p + row[first_place(plain)]
    return number


def alike_at(p, n, room, world, number):
    """The world of that number among those alike to this one for the room; this one itself has number 0."""
    return added(p, world, row_at(p, n, across(p, n, room), number))


def are_alike(p, room, one, other):
    """Whether each row of the room is worth the same at both worlds."""
    return all([worth(p, row, one) == worth(p, row, other) for row in room])
