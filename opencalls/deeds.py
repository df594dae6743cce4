"""The deeds: each one a step from a moment to the one behind it, or a refusal."""

from opencalls.checks import check_hand, check_hands, check_row
from opencalls.errors import Few, Full, NoName, NoPlace, NoRow, NoTurn, NotKnown, Taken
from opencalls.leads import led
from opencalls.moments import Moment, known_at, names_at
from opencalls.names import is_name
from opencalls.papers import needed
from opencalls.rests import is_number
from opencalls.rooms import within
from opencalls.rows import is_row


def are_first_rows(moment, thing):
    """Whether the thing, whatever it is, is rows that a hand may know as it comes."""
    return isinstance(thing, tuple) and len(thing) <= 8 and all([is_row(moment.p, moment.n, row) for row in thing])


def after_call(moment, hand, row):
    """The moment behind a call: all hands and the listener hear the row."""
    check_hand(names_at(moment), hand)
    check_row(moment.p, moment.n, row)
    if not within(moment.p, known_at(moment, (hand,)), row):
        raise NotKnown(hand)
    hands = tuple([(name, rows + (row,)) for name, rows in moment.hands])
    return Moment(moment.p, moment.n, moment.called + (row,), hands)


def after_whisper(moment, hands, row):
    """The moment behind a whisper: these hands hear the row."""
    check_hands(names_at(moment), hands, 1)
    check_row(moment.p, moment.n, row)
    told = [(name, rows + (row,) if name in hands else rows) for name, rows in moment.hands]
    return Moment(moment.p, moment.n, moment.called, tuple(told))


def after_meet(moment, hands):
    """The moment behind a meeting: each of these hands hears what it didn't know of what they knew together."""
    check_hands(names_at(moment), hands, 2)
    room = known_at(moment, hands)
    told = [(name, rows + news(moment, rows, room) if name in hands else rows) for name, rows in moment.hands]
    return Moment(moment.p, moment.n, moment.called, tuple(told))


def news(moment, rows, room):
    """Those rows of the room's plain form that aren't made of the rows heard and of those of the form ahead."""
    both = rows + room
    return tuple([both[number] for number in needed(moment.p, moment.n, both) if number >= len(rows)])


def after_hide(moment):
    """The moment behind one number more is hidden."""
    if moment.n >= 8:
        raise Full()
    hands = tuple([(name, longer(rows)) for name, rows in moment.hands])
    return Moment(moment.p, moment.n + 1, longer(moment.called), hands)


def longer(rows):
    """The rows, each with a 0 more behind."""
    return tuple([row + (0,) for row in rows])


def after_change(moment, place, row):
    """The moment behind the number at the place is changed to what the row was worth."""
    if not is_number(place) or not 0 <= place < moment.n:
        raise NoPlace(place)
    check_row(moment.p, moment.n, row)
    if row[place] == 0:
        raise NoTurn()
    hands = tuple([(name, all_led(moment.p, place, row, rows)) for name, rows in moment.hands])
    return Moment(moment.p, moment.n, all_led(moment.p, place, row, moment.called), hands)


def all_led(p, place, row, rows):
    """The rows, each of them led."""
    return tuple([led(p, place, row, one) for one in rows])


def after_come(moment, hand, rows):
    """The moment behind one hand more is there."""
    if not is_name(hand):
        raise NoName(hand)
    if hand in names_at(moment):
        raise Taken(hand)
    if not are_first_rows(moment, rows):
        raise NoRow()
    if len(moment.hands) >= 6:
        raise Full()
    newcomer = (hand, rows + known_at(moment, ()))
    return Moment(moment.p, moment.n, moment.called, tuple(sorted([newcomer, *moment.hands])))


def after_go(moment, hand):
    """The moment behind a hand is gone, with all that it heard."""
    check_hand(names_at(moment), hand)
    if len(moment.hands) <= 2:
        raise Few()
    hands = tuple([(name, rows) for name, rows in moment.hands if name != hand])
    return Moment(moment.p, moment.n, moment.called, hands)


STEPS = {
    "call": after_call,
    "whisper": after_whisper,
    "meet": after_meet,
    "hide": after_hide,
    "change": after_change,
    "come": after_come,
    "go": after_go,
}
THINGS = {"call": 2, "whisper": 2, "meet": 1, "hide": 0, "change": 2, "come": 2, "go": 1}


def is_deed(thing):
    """Whether the thing, whatever it is, is the word of a deed with as many things as it takes."""
    if not isinstance(thing, tuple) or len(thing) == 0 or not isinstance(thing[0], str):
        return False
    return thing[0] in THINGS and len(thing) - 1 == THINGS[thing[0]]


def after(moment, deed):
    """The moment behind a deed, which is handed in as its word and its things."""
    step = STEPS[deed[0]]
    things = deed[1:]
    return step(moment, *things)


def copied(thing):
    """The thing, whatever it is, made anew, so that nobody can change it."""
    if isinstance(thing, tuple):
        return tuple([copied(part) for part in thing])
    if isinstance(thing, list):
        return [copied(part) for part in thing]
    if isinstance(thing, dict):
        return {key: copied(thing[key]) for key in thing}
    return thing
