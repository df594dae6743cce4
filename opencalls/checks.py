"""Refusals that deeds, questions and stands have in common."""

from opencalls.errors import NoGroup, NoHand, NoRow
from opencalls.names import are_names
from opencalls.rows import is_row


def check_hand(there, hand):
    """Refuses a hand, whatever it is, that isn't among the names that are there."""
    if hand not in there:
        raise NoHand(hand)


def check_hands(there, hands, least):
    """Refuses hands, whatever they are, that are no rising tuple of so many names at least, all of them there."""
    if not are_names(hands) or len(hands) < least:
        raise NoGroup()
    for hand in hands:
        check_hand(there, hand)


def check_row(p, n, row):
    """Refuses a row, whatever it is, that is none of n rests by p."""
    if not is_row(p, n, row):
        raise NoRow()
