"""Plans: calls by which a group comes to be at one."""

from opencalls.errors import NoOrder
from opencalls.parts import others_of, rooms_behind, rooms_of
from opencalls.rooms import first_outside, within
from opencalls.rows import added, is_row, times
from opencalls.shares import shares, spare, wants_of
from opencalls.stands import at_one, behind, room_in


def plan_holds(stand, group, thing):
    """Whether the thing, whatever it is, is a plan of the group."""
    if not isinstance(thing, tuple):
        return False
    for call in thing:
        if not is_call(stand, group, call):
            return False
        name, row = call
        stand = behind(stand, name, row)
    return at_one(stand, group)


def is_call(stand, group, thing):
    """Whether the thing, whatever it is, is a call of one of the group of a row that it knows."""
    if not isinstance(thing, tuple) or len(thing) != 2:
        return False
    name, row = thing
    return name in group and is_row(stand[0], stand[1], row) and within(stand[0], room_in(stand, (name,)), row)


def plan(stand, group, *, order=None):
    """A plan of fewest calls; where an order is handed in, by just these callers one behind another."""
    numbers = shares(stand, group)
    if order is None:
        order = [name for name, number in zip(group, numbers) for again in range(number)]
    elif not is_order(group, numbers, order):
        raise NoOrder()
    p = stand[0]
    rooms = rooms_of(stand, group)
    calls = []
    for name in order:
        row = safe_row(stand, rooms, group, numbers, name)
        calls.append((name, row))
        rooms = rooms_behind(p, rooms, row)
        numbers = one_less(group, numbers, name)
    return tuple(calls)


def is_order(group, numbers, thing):
    """Whether the thing, whatever it is, names each of the group as often as its number, and nobody else."""
    if not isinstance(thing, tuple) or len(thing) != sum(numbers):
        return False
    return all([thing.count(name) == number for name, number in zip(group, numbers)])


def one_less(group, numbers, hand):
    """The numbers of the group, that of the hand less one."""
    return tuple([number - 1 if name == hand else number for name, number in zip(group, numbers)])


def safe_call(stand, group, numbers, hand):
    """A row known to the hand behind whose call the numbers, its own less one, leave none wanting still."""
    return safe_row(stand, rooms_of(stand, group), group, numbers, hand)


def safe_row(stand, rooms, group, numbers, hand):
    """The row of safe_call; rooms are those of the parts by now."""
    p, n = stand[:2]
    barred = []
    row = (0,) * n
    for room in barred_rooms(rooms, group, numbers, hand):
        barred.append(room)
        if within(p, room, row):
            row = row_outside(p, rooms[(hand,)], barred, row)
    return row


def barred_rooms(rooms, group, numbers, hand):
    """The rooms from which the hand must not call: of a part with it nothing is to spare, and the others know them."""
    listeners = [
        others_of(group, part) for part, wanted in wants_of(rooms, group)
        if hand in part and spare(group, numbers, part, wanted) == 0
    ]
    # Two of these that have a name in common make one of these together, so the greatest are apart: five at most.
    greatest = [one for one in listeners if not any([is_lesser(one, other) for other in listeners])]
    return [rooms[part] for part in greatest]


def is_lesser(one, other):
    """Whether the other part has all names of the one, and more."""
    return len(one) < len(other) and all([name in other for name in one])


def row_outside(p, room, barred, row):
    """A row of the room outside all barred ones; the row handed in is outside all but the last."""
    fresh = first_outside(p, barred[-1], room)
    # The last barred room has none of these five rows, and each of the others, four at most, has one at most.
    rows = [added(p, times(p, factor, row), fresh) for factor in range(5)]
    for other in barred[:-1]:
        rows = [one for one in rows if not within(p, other, one)]
    return rows[0]
