"""Secrets: rows that each of a group knows, and of which the listener knows nothing."""

from opencalls.errors import NotFree
from opencalls.papers import mark, needed
from opencalls.plans import plan
from opencalls.rests import contrary
from opencalls.rooms import across, room_of, shared, within
from opencalls.rows import added, is_row, times, worth
from opencalls.stands import behind, room_in


def are_free(p, n, room, rows):
    """Whether the rows make no row of the room by factors that aren't all 0."""
    return len(room_of(p, n, room + rows)) == len(room) + len(rows)


def common_of(stand, group):
    """The room of the rows that each of the group knows."""
    p, n = stand[:2]
    room = room_in(stand, group[:1])
    for name in group[1:]:
        room = shared(p, n, room, room_in(stand, (name,)))
    return room


def are_secrets(stand, group, thing):
    """Whether the thing, whatever it is, is rows that are secrets at once of the group."""
    p, n, known = stand[:3]
    if not isinstance(thing, tuple) or not all([is_row(p, n, row) for row in thing]):
        return False
    room = common_of(stand, group)
    return all([within(p, room, row) for row in thing]) and are_free(p, n, known, thing)


def secrets(stand, group):
    """How many secrets at once the group can tell at most, without a call."""
    return len(common_of(stand, group)) - len(stand[2])


def gain(stand, group):
    """A plan of fewest calls, and as many secrets at once behind it as the group can have at most."""
    calls = plan(stand, group)
    for name, row in calls:
        stand = behind(stand, name, row)
    return (calls, secret_rows(stand, group))


def secret_rows(stand, group):
    """Secrets at once of the group, as many as it has."""
    p, n, known = stand[:3]
    rows = known + common_of(stand, group)
    return tuple([rows[number] for number in needed(p, n, rows) if number >= len(known)])


def turns(p, n, room, rows):
    """For each of the rows a world at which it is worth 1, and all others and all rows of the room are worth 0."""
    if not are_free(p, n, room, rows):
        raise NotFree()
    return tuple([turn_of(p, n, room + rows[:at] + rows[at + 1:], row) for at, row in enumerate(rows)])


def turn_of(p, n, others, row):
    """A world at which the row, which the others don't make, is worth 1 and each of them 0."""
    for world in across(p, n, room_of(p, n, others)):
        rest = worth(p, row, world)
        if rest != 0:
            return times(p, contrary(p, rest), world)
    return None


def turns_hold(p, n, room, rows, thing):
    """Whether the thing, whatever it is, is such worlds, one for each of the rows."""
    if not isinstance(thing, tuple) or len(thing) != len(rows) or not all([is_row(p, n, world) for world in thing]):
        return False
    return all([is_turn(p, room, rows, at, world) for at, world in enumerate(thing)])


def is_turn(p, room, rows, at, world):
    """Whether the world is such a one for the row at this place."""
    rests = tuple([worth(p, row, world) for row in rows])
    return rests == mark(len(rows), at) and all([worth(p, row, world) == 0 for row in room])


def with_rests(p, n, room, rows, world, rests):
    """A world alike to this one for the room at which the rows are worth these rests."""
    for turn, row, rest in zip(turns(p, n, room, rows), rows, rests):
        world = added(p, world, times(p, (rest - worth(p, row, world)) % p, turn))
    return world
