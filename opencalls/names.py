"""Names of hands."""

LETTERS = "abcdefghijklmnopqrstuvwxyz"


def is_name(thing):
    """Whether the thing, whatever it is, is a name."""
    return isinstance(thing, str) and 1 <= len(thing) <= 8 and all([sign in LETTERS for sign in thing])


def is_rising(things):
    """Whether each of the things is above the one ahead."""
    return all([one < other for one, other in zip(things, things[1:])])


def are_names(thing):
    """Whether the thing, whatever it is, is a rising tuple of names."""
    return isinstance(thing, tuple) and all([is_name(part) for part in thing]) and is_rising(thing)
