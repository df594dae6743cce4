"""Moments: what was heard by then, and what is known by it."""

from opencalls.papers import makes, parted
from opencalls.rooms import room_of, shared


class Moment:
    """So many numbers by p are hidden; called holds the rows that the listener heard, hands pairs (name, rows)."""

    def __init__(self, p, n, called, hands):
        self.p = p
        self.n = n
        self.called = called
        self.hands = hands


def names_at(moment):
    """The names of the hands there, rising."""
    return tuple([name for name, rows in moment.hands])


def heard_at(moment, names):
    """The rows that these hands heard, one hand's behind another's; of no hands the listener's."""
    if len(names) == 0:
        return moment.called
    heard = []
    for name, rows in moment.hands:
        if name in names:
            heard.extend(rows)
    return tuple(heard)


def known_at(moment, names):
    """The room that these hands know; of no hands the listener's."""
    return room_of(moment.p, moment.n, heard_at(moment, names))


def common_at(moment, names):
    """The room of the rows that each of these hands knows, of one at least."""
    room = known_at(moment, names[:1])
    for name in names[1:]:
        room = shared(moment.p, moment.n, room, known_at(moment, (name,)))
    return room


def why_at(moment, names, row):
    """The paper that shows that these hands know the row, or the one that shows that they don't."""
    heard = heard_at(moment, names)
    factors = makes(moment.p, moment.n, heard, row)
    if factors is None:
        return ("parted", parted(moment.p, moment.n, heard, row))
    return ("makes", factors)


def stand_at(moment):
    """The stand of the moment."""
    hands = tuple([(name, known_at(moment, (name,))) for name in names_at(moment)])
    return (moment.p, moment.n, known_at(moment, ()), hands)


def gained(ahead, later):
    """Pairs (name, by how much) of the hands that know more at the later moment than at the one ahead."""
    pairs = []
    for name in names_at(later):
        # A hand that wasn't there ahead has heard nothing there, so all that it knows is more.
        more = len(known_at(later, (name,))) - len(known_at(ahead, (name,)))
        if more > 0:
            pairs.append((name, more))
    return tuple(pairs)
