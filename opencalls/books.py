"""The book: what hands hear by the deeds that stand, asked about at any moment."""

from opencalls.checks import check_hands, check_row
from opencalls.deeds import after, copied, is_deed
from opencalls.errors import Busy, Long, NoDeed, NoMoment, NothingBack
from opencalls.moments import Moment, common_at, gained, heard_at, known_at, names_at, stand_at, why_at
from opencalls.rests import is_number
from opencalls.rooms import within

DEEDS = 60


class Book:
    """A book over n numbers by p and some hands; each moment is kept, so taking back is dropping the last one."""

    def __init__(self, p, n, hands):
        self.made = (p, n, hands)
        self.moments = (Moment(p, n, (), hands),)
        self.done = ()
        self.trials = ()
        self.amid = False

    def __eq__(self, other):
        return isinstance(other, Book) and self.made == other.made and self.done == other.done

    def __len__(self):
        return len(self.done)

    def __str__(self):
        return f"{self.now().n} numbers by {self.now().p}, {len(self.now().hands)} hands, {len(self.done)} deeds"

    def now(self):
        """The moment behind all deeds that stand."""
        return self.moments[-1]

    def refuse_amid(self):
        """Refuses whatever would change the book while it tries deeds."""
        if self.amid:
            raise Busy()

    def perform(self, deed):
        """One deed, handed in as its word and its things."""
        if len(self.done) >= DEEDS:
            raise Long()
        moment = after(self.now(), deed)
        self.moments = self.moments + (moment,)
        self.done = self.done + (deed,)

    def call(self, hand, row):
        """The hand calls a row that it knows; all hear it, and so does the listener."""
        self.refuse_amid()
        self.perform(("call", hand, row))

    def whisper(self, hands, row):
        """These hands hear the row."""
        self.refuse_amid()
        self.perform(("whisper", hands, row))

    def meet(self, hands):
        """These hands tell each other all that they know."""
        self.refuse_amid()
        self.perform(("meet", hands))

    def hide(self):
        """One number more is hidden, the last."""
        self.refuse_amid()
        self.perform(("hide",))

    def change(self, place, row):
        """The hidden number at the place becomes what the row is worth."""
        self.refuse_amid()
        self.perform(("change", place, row))

    def come(self, hand, rows):
        """A hand comes that knows the rows, and what the listener knows."""
        self.refuse_amid()
        self.perform(("come", hand, rows))

    def go(self, hand):
        """The hand goes."""
        self.refuse_amid()
        self.perform(("go", hand))

    def back(self):
        """The last deed that stands is undone."""
        self.refuse_amid()
        if len(self.done) == 0:
            raise NothingBack()
        self.moments = self.moments[:-1]
        self.done = self.done[:-1]

    def tried(self, deeds, *, tell=None):
        """All of the deeds are done, or none; behind each of them tell is called with the book."""
        self.refuse_amid()
        if not isinstance(deeds, (list, tuple)) or len(deeds) > DEEDS:
            raise NoDeed(None)
        taken = copied(deeds)
        moments, done, many = self.moments, self.done, 0
        # Whatever tell raises is to go through, so what is kept is set right at the end, and nothing is caught.
        self.trials = self.trials[-10:] + (("begin", len(taken)),)
        self.amid = True
        try:
            self.perform_all(taken, tell)
            moments, done, many = self.moments, self.done, len(taken)
        finally:
            self.moments, self.done, self.amid = moments, done, False
            self.trials = self.trials + (("end", many),)

    def perform_all(self, deeds, tell):
        """The deeds, one behind another, up to one that is refused."""
        for number, deed in enumerate(deeds):
            if not is_deed(deed):
                raise NoDeed(number)
            self.perform(deed)
            if tell is not None:
                tell(self)

    def log(self):
        """How the last tries began and ended."""
        return self.trials[-10:]

    def moment_at(self, at):
        """The moment behind the first so many deeds, or now."""
        if at is None:
            return self.now()
        if not is_number(at) or not 0 <= at <= len(self.done):
            raise NoMoment(at)
        return self.moments[at]

    def moment_of(self, hands, least, at):
        """The moment, where these hands, so many at least, are there at it."""
        moment = self.moment_at(at)
        check_hands(names_at(moment), hands, least)
        return moment

    def names(self, *, at=None):
        """The names of the hands there."""
        return names_at(self.moment_at(at))

    def heard(self, hands, *, at=None):
        """The rows that these hands heard; of () the listener's."""
        return heard_at(self.moment_of(hands, 0, at), hands)

    def known(self, hands, *, at=None):
        """The room that these hands know; of () the listener's."""
        return known_at(self.moment_of(hands, 0, at), hands)

    def common(self, hands, *, at=None):
        """The room of the rows that each of these hands knows."""
        return common_at(self.moment_of(hands, 1, at), hands)

    def knows(self, hands, row, *, at=None):
        """Whether these hands know the row; of () the listener."""
        moment = self.moment_of(hands, 0, at)
        check_row(moment.p, moment.n, row)
        return within(moment.p, known_at(moment, hands), row)

    def why(self, hands, row, *, at=None):
        """How what these hands heard makes the row, or worlds that show that it doesn't."""
        moment = self.moment_of(hands, 0, at)
        check_row(moment.p, moment.n, row)
        return why_at(moment, hands, row)

    def learned(self, number):
        """By how much each hand that knows more behind the deed of this number does so."""
        if not is_number(number) or not 0 <= number < len(self.done):
            raise NoMoment(number)
        return gained(self.moments[number], self.moments[number + 1])

    def idle(self):
        """The numbers of the calls that told the listener nothing."""
        return tuple([number for number, deed in enumerate(self.done) if self.is_idle(number, deed)])

    def is_idle(self, number, deed):
        """Whether the deed of this number is a call whose row the listener knew ahead of it."""
        if deed[0] != "call":
            return False
        moment = self.moments[number]
        return within(moment.p, known_at(moment, ()), deed[2])

    def its_deeds(self):
        """The deeds that stand, each as its word and its things."""
        return self.done

    def stand(self, *, at=None):
        """What the listener and each of the hands know."""
        return stand_at(self.moment_at(at))
