"""A desk, at which a book is led and asked by lines."""

from opencalls.checks import check_hands
from opencalls.errors import Busy, Few, Full, Long, NoGroup, NoHand, NoPlace, NoRow, NotKnown, NothingBack, NoTurn
from opencalls.errors import Taken
from opencalls.partings import fewest, most
from opencalls.plans import plan
from opencalls.texts import row_text
from opencalls.words import read_line


def told_call(book, hand, row):
    """A row is called."""
    book.call(hand, row)
    return "done"


def told_whisper(book, hands, row):
    """A row is whispered."""
    book.whisper(hands, row)
    return "done"


def told_meet(book, hands):
    """Hands meet."""
    book.meet(hands)
    return "done"


def told_hide(book):
    """A number more is hidden."""
    book.hide()
    return "done"


def told_change(book, place, row):
    """A number is changed."""
    book.change(place, row)
    return "done"


def told_come(book, hand, rows):
    """A hand comes."""
    book.come(hand, rows)
    return "done"


def told_go(book, hand):
    """A hand goes."""
    book.go(hand)
    return "done"


def told_back(book):
    """The last deed is undone."""
    book.back()
    return "done"


def told_knows(book, hands, row):
    """Whether the hands know the row."""
    return "yes" if book.knows(hands, row) else "no"


def stand_for(book, group):
    """The stand by now, where the group is one of hands that are there."""
    check_hands(book.names(), group, 2)
    return book.stand()


def told_fewest(book, group):
    """How many calls bring the group at one."""
    return str(fewest(stand_for(book, group), group))


def told_most(book, group):
    """How many secrets at once the group can come to have."""
    return str(most(stand_for(book, group), group))


def told_plan(book, group):
    """The calls of a plan of the group."""
    return listed([f"{name} {row_text(row)}" for name, row in plan(stand_for(book, group), group)])


def told_hands(book):
    """The names of the hands there."""
    return " ".join(book.names())


def told_open(book):
    """The rows of the listener's room."""
    return listed([row_text(row) for row in book.known(())])


def listed(texts):
    """The texts with a comma and a blank between two."""
    return ", ".join(texts) if len(texts) > 0 else "-"


ANSWERS = {
    "call": told_call,
    "whisper": told_whisper,
    "meet": told_meet,
    "hide": told_hide,
    "change": told_change,
    "come": told_come,
    "go": told_go,
    "back": told_back,
    "knows": told_knows,
    "fewest": told_fewest,
    "most": told_most,
    "plan": told_plan,
    "hands": told_hands,
    "open": told_open,
}


def answered(book, word, things):
    """The answer to a line of this word and these things."""
    answer = ANSWERS[word]
    return answer(book, *things)


class Desk:
    """A desk with a book, which may be led and asked otherwise, too."""

    def __init__(self, book):
        self.book = book

    def say(self, line):
        """The answer to the line, whatever it is."""
        read = read_line(self.book.now().n, line)
        if read is None:
            return "no line"
        word, things = read
        try:
            return answered(self.book, word, things)
        except NoHand:
            return "no NoHand"
        except NoGroup:
            return "no NoGroup"
        except NoRow:
            return "no NoRow"
        except NotKnown:
            return "no NotKnown"
        except NoPlace:
            return "no NoPlace"
        except NoTurn:
            return "no NoTurn"
        except Taken:
            return "no Taken"
        except Full:
            return "no Full"
        except Few:
            return "no Few"
        except NothingBack:
            return "no NothingBack"
        except Long:
            return "no Long"
        except Busy:
            return "no Busy"
