"""Texts of rows and stands, there and back."""

from opencalls.errors import NoText
from opencalls.rows import is_row
from opencalls.stands import is_stand

FIGURES = "0123456789"


def is_numeral(text):
    """Whether the text is a number of 1 to 6 figures, without a nought ahead but in 0."""
    # No rest, prime or place has more figures; and Python itself refuses to read numbers of very many.
    if not 1 <= len(text) <= 6 or not all([sign in FIGURES for sign in text]):
        return False
    return text == "0" or text[0] != "0"


def read_numbers(words):
    """The numbers that the words are, one behind another; None where one of them is none."""
    if not all([is_numeral(word) for word in words]):
        return None
    return tuple([int(word) for word in words])


def row_text(row):
    """The rests of the row with a blank between two."""
    return " ".join([str(rest) for rest in row])


def read_row(p, n, text):
    """The row of n rests by p whose text it is, whatever it is."""
    row = read_numbers(text.split(" ")) if isinstance(text, str) else None
    if not is_row(p, n, row):
        raise NoText()
    return row


def rows_text(word, rows):
    """The word, and behind it the rows."""
    if len(rows) == 0:
        return word
    return word + " " + ", ".join([row_text(row) for row in rows])


def read_rows(line):
    """A pair of a line's word and the rows behind it, with None in place of what is none."""
    word, blank, rest = line.partition(" ")
    if blank == "":
        return (word, ())
    return (word, tuple([read_numbers(part.split(" ")) for part in rest.split(", ")]))


def stand_text(stand):
    """The stand, a line for p and n, one for the listener and one for each hand."""
    p, n, known, hands = stand
    lines = [rows_text(name, room) for name, room in hands]
    return "\n".join([row_text((p, n)), rows_text("open", known), *lines])


def read_stand(text):
    """The stand whose text it is, whatever it is."""
    stand = stand_in(text.split("\n")) if isinstance(text, str) else None
    if not is_stand(stand):
        raise NoText()
    return stand


def stand_in(lines):
    """What would be the stand, were each line as it should be; None where the first two aren't."""
    first = read_numbers(lines[0].split(" "))
    pairs = [read_rows(line) for line in lines[1:]]
    if first is None or len(first) != 2 or len(pairs) == 0 or pairs[0][0] != "open":
        return None
    return (*first, pairs[0][1], tuple(pairs[1:]))
