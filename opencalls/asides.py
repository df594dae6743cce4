"""Asides: a call by which one hand learns a row and another one doesn't."""

from opencalls.checks import check_hand, check_row
from opencalls.errors import Known
from opencalls.rooms import first_outside, inside, is_room, shared, widened, within
from opencalls.rows import added, is_row
from opencalls.stands import names_of, room_in


def aside(stand, caller, learner, other, row):
    """("call", such a call) of the caller, or ("none", the room that shows that there is none)."""
    p, n = stand[:2]
    for name in (caller, learner, other):
        check_hand(names_of(stand), name)
    check_row(p, n, row)
    for name in (learner, other):
        if within(p, room_in(stand, (name,)), row):
            raise Known(name)
    rooms = rooms_of_three(stand, caller, learner, other)
    call = call_aside(p, n, rooms, row)
    return ("none", way_of(p, n, rooms, row)) if call is None else ("call", call)


def rooms_of_three(stand, caller, learner, other):
    """What the caller, the learner and the other one know."""
    return tuple([room_in(stand, (name,)) for name in (caller, learner, other)])


def way_of(p, n, rooms, row):
    """The room of all that the caller knows among what the learner, told the row, would know."""
    caller, learner, other = rooms
    return shared(p, n, caller, widened(p, learner, row))


def is_aside(p, rooms, row, call):
    """Whether the caller knows the call, and behind it the learner knows the row and the other one doesn't."""
    caller, learner, other = rooms
    if not within(p, caller, call) or not within(p, widened(p, learner, call), row):
        return False
    return not within(p, widened(p, other, call), row)


def is_barred(p, n, rooms, row):
    """Whether no row of the way is such a call."""
    caller, learner, other = rooms
    way = way_of(p, n, rooms, row)
    if inside(p, way, learner):
        return True
    return inside(p, way, widened(p, other, row)) and inside(p, shared(p, n, way, other), learner)


def call_aside(p, n, rooms, row):
    """Such a call; None where there is none."""
    if is_barred(p, n, rooms, row):
        return None
    caller, learner, other = rooms
    way = way_of(p, n, rooms, row)
    news = first_outside(p, learner, way)
    strange = first_outside(p, widened(p, other, row), way)
    if strange is None:
        # The other one, told any of it that it doesn't know, would know the row; so only what it knows is left.
        return first_outside(p, learner, shared(p, n, way, other))
    # Where neither alone will do, each is short of just what the other one has, so both together will.
    for call in (news, strange):
        if is_aside(p, rooms, row, call):
            return call
    return added(p, news, strange)


def aside_holds(stand, caller, learner, other, row, thing):
    """Whether the thing, whatever it is, is such a call, or the room that shows that there is none."""
    if not isinstance(thing, tuple) or len(thing) != 2:
        return False
    p, n = stand[:2]
    rooms = rooms_of_three(stand, caller, learner, other)
    word, told = thing
    if word == "call":
        return is_row(p, n, told) and is_aside(p, rooms, row, told)
    if word == "none":
        return is_room(p, n, told) and told == way_of(p, n, rooms, row) and is_barred(p, n, rooms, row)
    return False
