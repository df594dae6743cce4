"""Stands: what the listener and the hands know at a moment."""

from opencalls.checks import check_hand, check_row
from opencalls.errors import NotKnown
from opencalls.names import is_name, is_rising
from opencalls.rests import is_number, is_prime
from opencalls.rooms import inside, is_room, room_of, widened, within


def is_stand(thing):
    """Whether the thing, whatever it is, is a stand."""
    if not isinstance(thing, tuple) or len(thing) != 4:
        return False
    p, n, known, hands = thing
    if not is_prime(p) or not is_number(n) or not 1 <= n <= 8 or not is_room(p, n, known):
        return False
    if not isinstance(hands, tuple) or not 2 <= len(hands) <= 6:
        return False
    if not all([is_hand(p, n, known, pair) for pair in hands]):
        return False
    return is_rising([name for name, room in hands])


def is_hand(p, n, known, thing):
    """Whether the thing, whatever it is, is a pair of a name and a room that has what the listener knows inside."""
    if not isinstance(thing, tuple) or len(thing) != 2:
        return False
    name, room = thing
    return is_name(name) and is_room(p, n, room) and inside(p, known, room)


def names_of(stand):
    """The names of the hands of the stand."""
    return tuple([name for name, room in stand[3]])


def room_in(stand, names):
    """The room of what these hands of the stand and the listener together know."""
    p, n, known, hands = stand
    rows = known
    for name, room in hands:
        if name in names:
            rows = rows + room
    return room_of(p, n, rows)


def behind(stand, hand, row):
    """The stand behind a call of the row by the hand."""
    p, n, known, hands = stand
    check_hand(names_of(stand), hand)
    check_row(p, n, row)
    if not within(p, room_in(stand, (hand,)), row):
        raise NotKnown(hand)
    told = tuple([(name, widened(p, room, row)) for name, room in hands])
    return (p, n, widened(p, known, row), told)


def size_of(stand, names):
    """How much these hands of the stand together know beyond the calls."""
    return len(room_in(stand, names)) - len(stand[2])


def at_one(stand, group):
    """Whether each of the group knows all that it together knows."""
    whole = size_of(stand, group)
    return all([size_of(stand, (name,)) == whole for name in group])
