"""Parts of a group, with what each of them knows."""

from opencalls.rooms import widened


def parts_of(group):
    """All parts of the group, and ahead of them none of it."""
    parts = [()]
    for name in group:
        parts = parts + [part + (name,) for part in parts]
    return parts


def lesser_parts(group):
    """All parts but the whole group, rising."""
    return sorted([part for part in parts_of(group) if 0 < len(part) < len(group)])


def others_of(group, part):
    """Those of the group that aren't in the part."""
    return tuple([name for name in group if name not in part])


def rooms_of(stand, group):
    """The room of what each part of the group and the listener together know, by the part; of () the listener's."""
    p, n, known, hands = stand
    rooms = {(): known}
    for name, room in hands:
        if name in group:
            for part in list(rooms):
                rooms[part + (name,)] = widened_by(p, rooms[part], room)
    return rooms


def widened_by(p, room, rows):
    """The room that the rows of this one and some rows more make."""
    for row in rows:
        room = widened(p, room, row)
    return room


def rooms_behind(p, rooms, row):
    """The rooms of the parts behind a call of the row."""
    return {part: widened(p, rooms[part], row) for part in rooms}


def sizes_of(rooms):
    """How much each part knows beyond the calls, by the part."""
    return {part: len(rooms[part]) - len(rooms[()]) for part in rooms}
