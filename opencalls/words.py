"""The words of a line: which line they make, and the things that they name."""

from opencalls.names import is_name
from opencalls.texts import is_numeral, read_numbers


def hand_in(n, words):
    """The hand that the one word names; None where they are none such, and so with all that is read here."""
    return words[0] if len(words) == 1 and is_name(words[0]) else None


def hands_in(n, words):
    """The hands that the one word names."""
    if len(words) != 1:
        return None
    names = tuple(words[0].split(","))
    return names if all([is_name(name) for name in names]) else None


def askers_in(n, words):
    """The hands that the one word names, or () for the listener."""
    return () if words == ["-"] else hands_in(n, words)


def number_in(n, words):
    """The number that the one word is."""
    return int(words[0]) if len(words) == 1 and is_numeral(words[0]) else None


def row_in(n, words):
    """The row of as many numbers as are hidden; whether these are rests is for the book to say."""
    return read_numbers(words) if len(words) == n else None


def rows_in(n, words):
    """The rows with a comma between two."""
    if words == ["-"]:
        return ()
    rows = []
    part = []
    for word in [*words, ","]:
        if word == ",":
            rows.append(row_in(n, part))
            part = []
        else:
            part.append(word)
    return None if None in rows else tuple(rows)


READERS = {
    "hand": hand_in,
    "hands": hands_in,
    "askers": askers_in,
    "number": number_in,
    "row": row_in,
    "rows": rows_in,
}
KINDS = {
    "call": ("hand", "row"),
    "whisper": ("hands", "row"),
    "meet": ("hands",),
    "hide": (),
    "change": ("number", "row"),
    "come": ("hand", "rows"),
    "go": ("hand",),
    "back": (),
    "knows": ("askers", "row"),
    "fewest": ("hands",),
    "most": ("hands",),
    "plan": ("hands",),
    "hands": (),
    "open": (),
}


def things_in(n, kinds, words):
    """What the words name: each kind but the last takes one of them, the last takes all that are left."""
    if len(kinds) == 0:
        return () if len(words) == 0 else None
    things = []
    for at, kind in enumerate(kinds):
        taken = words[at:] if at == len(kinds) - 1 else words[at:at + 1]
        read = READERS[kind]
        things.append(read(n, taken))
    return None if None in things else tuple(things)


def read_line(n, line):
    """A pair of the line's word and its things, by n hidden numbers; None where it, whatever it is, is no line."""
    if not isinstance(line, str):
        return None
    word, *words = line.split(" ")
    things = things_in(n, KINDS[word], words) if word in KINDS else None
    return None if things is None else (word, things)
