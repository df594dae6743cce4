"""Partings of a group, and how few calls bring it at one by them."""

from opencalls.names import is_rising
from opencalls.parts import rooms_of, sizes_of
from opencalls.rests import is_number
from opencalls.stands import size_of


def partings(group):
    """All partings of the group, rising."""
    splits = [()]
    for name in group:
        splits = [wider for split in splits for wider in splits_with(split, name)]
    return tuple(sorted([split for split in splits if len(split) > 1]))


def splits_with(split, name):
    """The split with one name more: behind the names of each of its parts, and as a part alone."""
    grown = [split[:at] + (part + (name,),) + split[at + 1:] for at, part in enumerate(split)]
    return [*grown, split + ((name,),)]


def is_parting(group, thing):
    """Whether the thing, whatever it is, is a parting of the group."""
    if not isinstance(thing, tuple) or len(thing) < 2 or not all([is_part(group, part) for part in thing]):
        return False
    return is_rising(thing) and tuple(sorted(names_in(thing))) == group


def is_part(group, thing):
    """Whether the thing, whatever it is, is a part of the group."""
    if not isinstance(thing, tuple) or len(thing) == 0:
        return False
    return all([name in group for name in thing]) and is_rising(thing)


def names_in(parting):
    """The names in the parts, part by part."""
    return [name for part in parting for name in part]


def measure(stand, parting):
    """The sizes of the parts summed up, less that of the whole group."""
    return sum([size_of(stand, part) for part in parting]) - size_of(stand, names_in(parting))


def bound(stand, parting):
    """How many calls at least bring the group at one by this parting."""
    return bound_of(size_of(stand, names_in(parting)), [size_of(stand, part) for part in parting])


def bound_of(whole, sizes):
    """The bound of a parting, by the size of the whole group and those of the parts."""
    return whole - (sum(sizes) - whole) // (len(sizes) - 1)


def tight(stand, group):
    """The greatest bound of all partings of the group, and the first parting that has it."""
    sizes = sizes_of(rooms_of(stand, group))
    pairs = [(bound_of(sizes[group], [sizes[part] for part in parting]), parting) for parting in partings(group)]
    # Of several greatest ones Python's max tells the first.
    return max(pairs, key=lambda pair: pair[0])


def tight_holds(stand, group, thing):
    """Whether the thing, whatever it is, is a pair of a number and a parting of the group that has this bound."""
    if not isinstance(thing, tuple) or len(thing) != 2:
        return False
    number, parting = thing
    return is_number(number) and is_parting(group, parting) and bound(stand, parting) == number


def fewest(stand, group):
    """The least number of calls that bring the group at one."""
    return tight(stand, group)[0]


def most(stand, group):
    """The greatest number of secrets at once that the group can have behind any calls of its hands."""
    return size_of(stand, group) - fewest(stand, group)
