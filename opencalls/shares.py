"""Shares: how often each of a group calls, so that all can come to be at one."""

from opencalls.partings import fewest
from opencalls.parts import lesser_parts, others_of, rooms_of, sizes_of
from opencalls.rests import is_number
from opencalls.stands import size_of


def want(stand, group, part):
    """How much whoever is to be at one must hear from this part, which isn't the whole group."""
    return size_of(stand, group) - size_of(stand, others_of(group, part))


def wants_of(rooms, group):
    """Pairs (part, its want) of all parts but the whole group, rising; rooms are those of the parts."""
    sizes = sizes_of(rooms)
    return [(part, sizes[group] - sizes[others_of(group, part)]) for part in lesser_parts(group)]


def spare(group, numbers, part, wanted):
    """By how much the numbers of the part are above what is wanted from it."""
    return sum([number for name, number in zip(group, numbers) if name in part]) - wanted


def first_wanting(group, wants, numbers):
    """The first part whose numbers come to less than its want; None where there is none."""
    for part, wanted in wants:
        if spare(group, numbers, part, wanted) < 0:
            return part
    return None


def wanting(stand, group, numbers):
    """The first part but the whole group whose numbers come to less than its want; None where there is none."""
    return first_wanting(group, wants_of(rooms_of(stand, group), group), numbers)


def shares(stand, group):
    """The greatest of all tuples of numbers that leave none wanting and come to fewest."""
    total = fewest(stand, group)
    wants = wants_of(rooms_of(stand, group), group)
    for numbers in falling(total, limits_of(group, total, wants)):
        if first_wanting(group, wants, numbers) is None:
            return numbers
    return None


def limits_of(group, total, wants):
    """For each of the group the least and the greatest number that its own want and that of the others leave it."""
    wanted = {part: many for part, many in wants}
    return [(wanted[(name,)], total - wanted[others_of(group, (name,))]) for name in group]


def falling(total, limits):
    """All tuples of numbers, each within its limits, that come to the total, the greatest first."""
    if len(limits) == 0:
        return [()] if total == 0 else []
    low, high = limits[0]
    found = []
    for number in range(high, low - 1, -1):
        found.extend([(number,) + rest for rest in falling(total - number, limits[1:])])
    return found


def shares_hold(stand, group, thing):
    """Whether the thing, whatever it is, is numbers from 0 on, one for each of the group, that leave none wanting."""
    if not isinstance(thing, tuple) or len(thing) != len(group):
        return False
    if not all([is_number(number) and number >= 0 for number in thing]):
        return False
    return wanting(stand, group, thing) is None
