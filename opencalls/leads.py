"""How a row is exchanged where a hidden number is changed."""

from opencalls.rests import contrary
from opencalls.rows import added, times


def led(p, place, row, one):
    """The row that is worth, once the number at the place is what the row was worth, what the one was worth ahead."""
    # The number there went into the one so often; what it was is now made of the new number and all the other ones.
    often = one[place] * contrary(p, row[place]) % p
    rests = list(added(p, one, times(p, p - often, row)))
    rests[place] = often
    return tuple(rests)
