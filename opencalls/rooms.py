"""Rooms: all the rows that some rows make, handed in and told by their plain form."""

from opencalls.rests import contrary
from opencalls.rows import added, is_row, times


def is_noughts(row):
    """Whether the row has nothing but noughts."""
    return all([rest == 0 for rest in row])


def first_place(row):
    """The place of the first rest that isn't 0; None where there is none."""
    for at, rest in enumerate(row):
        if rest != 0:
            return at
    return None


def cleared(p, plain, row):
    """The row, with so many times the plain one taken off that it has 0 where that one has its first rest, a 1."""
    factor = row[first_place(plain)]
    if factor == 0:
        return row
    return added(p, row, times(p, p - factor, plain))


def left_of(p, room, row):
    """The row that differs from this one by a row of the room and has 0 where a plain row has its first rest."""
    for plain in room:
        row = cleared(p, plain, row)
    return row


def widened(p, room, row):
    """The room that the rows of this one and one row more make."""
    rest = left_of(p, room, row)
    at = first_place(rest)
    if at is None:
        return room
    fresh = times(p, contrary(p, rest[at]), rest)
    # Of two plain rows the one whose 1 stands further ahead is the greater tuple, so falling tuples have rising places.
    return tuple(sorted([fresh] + [cleared(p, fresh, plain) for plain in room], reverse=True))


def room_of(p, n, rows):
    """The plain form of the room that the rows make."""
    room = ()
    for row in rows:
        # A room of this size has all rows already, and long rows of heard rows often end in it.
        if len(room) == n:
            return room
        room = widened(p, room, row)
    return room


def is_room(p, n, thing):
    """Whether the thing, whatever it is, is a plain form of rows of n rests."""
    if not isinstance(thing, tuple) or not all([is_row(p, n, row) for row in thing]):
        return False
    return room_of(p, n, thing) == thing


def within(p, room, row):
    """Whether the room has the row."""
    return is_noughts(left_of(p, room, row))


def first_outside(p, room, rows):
    """The first of the rows that the room hasn't; None where it has them all."""
    for row in rows:
        if not within(p, room, row):
            return row
    return None


def inside(p, one, other):
    """Whether the other room has each row of the one."""
    return all([within(p, other, row) for row in one])


def joined(p, n, one, other):
    """The room that the rows of both rooms make."""
    return room_of(p, n, one + other)


def shared(p, n, one, other):
    """The room of the rows that both rooms have."""
    # Both have a row just where it is worth 0 at all worlds across from the one and at all across from the other.
    return across(p, n, joined(p, n, across(p, n, one), across(p, n, other)))


def across(p, n, room):
    """The room of all rows at which, taken as worlds, each row of the room is worth 0."""
    firsts = [first_place(plain) for plain in room]
    return room_of(p, n, tuple([across_at(p, n, room, at) for at in range(n) if at not in firsts]))


def across_at(p, n, room, at):
    """The one row across from the room that has 1 at this place and 0 elsewhere but where plain rows begin."""
    rests = [0] * n
    rests[at] = 1
    for plain in room:
        rests[first_place(plain)] = -plain[at] % p
    return tuple(rests)
