"""The refusals. Each class is one reason, and keeps the very things that it is made of as its fields."""


class CallError(ValueError):
    """Over all refusals, but NoHand and NoMoment: these two are asked for and not there."""


class NoRow(CallError):
    """It is no row of as many rests as there are hidden numbers."""


class NotKnown(CallError):
    """The hand of this name doesn't know the row that it is to call."""

    def __init__(self, name):
        self.name = name


class NoGroup(CallError):
    """It is no rising tuple of names, or one of too few."""


class Full(CallError):
    """There is no room for one number or one hand more."""


class NoPlace(CallError):
    """No hidden number stands at this place."""

    def __init__(self, place):
        self.place = place


class NoTurn(CallError):
    """The change can't be led back, for its row has 0 at the place that it changes."""


class NoName(CallError):
    """It is no name."""

    def __init__(self, name):
        self.name = name


class Taken(CallError):
    """A hand of this name is there already."""

    def __init__(self, name):
        self.name = name


class Few(CallError):
    """No hand can go, for only two are there."""


class NothingBack(CallError):
    """No deed stands that could be undone."""


class Long(CallError):
    """As many deeds stand as may stand."""


class Busy(CallError):
    """The book is amid its deeds, and takes no other ones."""


class NoDeed(CallError):
    """What stands at this number is no deed; None where there is no row of deeds at all."""

    def __init__(self, number):
        self.number = number


class NoOrder(CallError):
    """It doesn't name each of the group as often as its share."""


class NotFree(CallError):
    """The rows make a row of the room."""


class Known(CallError):
    """The hand of this name knows the row already."""

    def __init__(self, name):
        self.name = name


class NoText(CallError):
    """It is not the text of such a thing."""


class NoHand(LookupError):
    """No hand of this name is there."""

    def __init__(self, name):
        self.name = name


class NoMoment(LookupError):
    """There is no such moment, or no deed of this number."""

    def __init__(self, at):
        self.at = at
