"""Papers: why a row is made of some rows, or why it isn't."""

from opencalls.rooms import across, is_noughts, left_of, room_of, widened, within
from opencalls.rows import is_row, made_of, worth


def makes(p, n, rows, row):
    """Factors, one for each of the rows, that make the row; None where none do."""
    numbers = needed(p, n, rows)
    size = len(numbers)
    # Each needed row carries behind it how it is made, so that what is taken off the row tells its own making.
    marked = tuple([rows[number] + mark(size, at) for at, number in enumerate(numbers)])
    rest = left_of(p, room_of(p, n + size, marked), row + (0,) * size)
    if not is_noughts(rest[:n]):
        return None
    factors = [0] * len(rows)
    for number, taken in zip(numbers, rest[n:]):
        factors[number] = -taken % p
    return tuple(factors)


def mark(size, at):
    """A row of noughts, but for a 1 at the place."""
    return (0,) * at + (1,) + (0,) * (size - at - 1)


def makes_hold(p, n, rows, row, thing):
    """Whether the thing, whatever it is, is factors, one for each of the rows, that make the row."""
    return is_row(p, len(rows), thing) and made_of(p, n, rows, thing) == row


def parted(p, n, rows, row):
    """A pair of worlds at which each of the rows is worth the same and the row isn't; None where there is none."""
    for world in across(p, n, room_of(p, n, rows)):
        if worth(p, row, world) != 0:
            return ((0,) * n, world)
    return None


def parted_hold(p, n, rows, row, thing):
    """Whether the thing, whatever it is, is a pair of worlds that part the row from the rows."""
    if not isinstance(thing, tuple) or len(thing) != 2 or not all([is_row(p, n, world) for world in thing]):
        return False
    one, other = thing
    if worth(p, row, one) == worth(p, row, other):
        return False
    return all([worth(p, heard, one) == worth(p, heard, other) for heard in rows])


def needed(p, n, rows):
    """The numbers of the rows that those ahead of them don't make."""
    numbers = []
    room = ()
    for number, row in enumerate(rows):
        if not within(p, room, row):
            numbers.append(number)
            room = widened(p, room, row)
    return tuple(numbers)
