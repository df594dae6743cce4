"""Point 12: deeds tried all or none, and the log."""

import random
import unittest

from opencalls.books import Book
from things import done_by, drawn_model, first_hands, odd_things, only_tuples, refused_by, seen_of

HANDS = (("ann", ((1, 0),)), ("bob", ((0, 1),)), ("cy", ()))
GOOD = (
    ("call", "ann", (3, 0)), ("whisper", ("bob", "cy"), (2, 2)), ("meet", ("ann", "cy")), ("hide",),
    ("change", 1, (1, 2, 3)), ("come", "dan", ((0, 0, 1),)), ("go", "cy"),
)
WRONG = ("go", "zoe")


def new_book():
    return Book(5, 2, HANDS)


def filled(many):
    """A book in which so many deeds stand."""
    book = new_book()
    while len(book) < many:
        book.call("ann", (0, 0))
    return book


class Stop(BaseException):
    """What a tell raises here: no error that the book could know of."""


class AllOrNone(unittest.TestCase):
    def test_all_are_done_as_one_by_one(self):
        for kind in (list, tuple):
            book, other = new_book(), new_book()
            self.assertIsNone(book.tried(kind(GOOD)))
            for deed in GOOD:
                done_by(other, deed)
            self.assertEqual(seen_of(book), seen_of(other))
            self.assertEqual(book, other)
            self.assertEqual(book.its_deeds(), GOOD)
            self.assertEqual(book.log(), (("begin", 7), ("end", 7)))

    def test_each_stands_by_itself(self):
        book = new_book()
        book.tried(GOOD)
        for many in range(6, -1, -1):
            book.back()
            self.assertEqual(book.its_deeds(), GOOD[:many])
        self.assertEqual(refused_by(book.back), ("NothingBack",))

    def test_none_where_one_is_refused(self):
        for at in range(len(GOOD) + 1):
            for kind in (list, tuple):
                book = filled(3)
                ahead = seen_of(book)
                deeds = kind(GOOD[:at] + (WRONG,) + GOOD[at:])
                self.assertEqual(refused_by(lambda: book.tried(deeds)), ("NoHand", "zoe"))
                self.assertEqual(seen_of(book), ahead)
                self.assertEqual(book.log(), (("begin", 8), ("end", 0)))
                self.assertEqual(deeds, kind(GOOD[:at] + (WRONG,) + GOOD[at:]))

    def test_no_deeds_at_all(self):
        for none in ((), []):
            for many in (0, 60):
                book = filled(many)
                ahead = seen_of(book)
                self.assertIsNone(book.tried(none))
                self.assertEqual(seen_of(book), ahead)
                self.assertEqual(book.log(), (("begin", 0), ("end", 0)))

    def test_every_refusal_goes_through(self):
        for deed, refusal in (
            (("call", "ann", (0, 1)), ("NotKnown", "ann")), (("call", None, None), ("NoHand", None)),
            (("call", "ann", [1, 0]), ("NoRow",)), (("whisper", (), (1, 0)), ("NoGroup",)),
            (("meet", ("ann",)), ("NoGroup",)), (("change", True, (1, 1)), ("NoPlace", True)),
            (("change", 0, (0, 1)), ("NoTurn",)), (("come", "Zoe", ()), ("NoName", "Zoe")),
            (("come", "bob", ()), ("Taken", "bob")), (("come", "dan", [()]), ("NoRow",)),
            (("go", "dan"), ("NoHand", "dan")),
        ):
            for ahead in ((), (("call", "ann", (2, 0)),)):
                book = new_book()
                seen = seen_of(book)
                told = refused_by(lambda: book.tried([*ahead, deed, ("hide",)]))
                self.assertEqual(repr(told), repr(refusal))
                self.assertEqual(seen_of(book), seen)
        self.assertEqual(refused_by(lambda: new_book().tried((("go", "ann"), ("go", "bob")))), ("Few",))
        self.assertEqual(refused_by(lambda: new_book().tried((("hide",),) * 7)), ("Full",))

    def test_long_amid_it(self):
        for many in (58, 59, 60):
            book = filled(many)
            ahead = seen_of(book)
            self.assertEqual(refused_by(lambda: book.tried([("hide",)] * 3)), ("Long",))
            self.assertEqual(seen_of(book), ahead)
            self.assertEqual(book.log(), (("begin", 3), ("end", 0)))
        book = filled(0)
        self.assertIsNone(book.tried([("call", "ann", (1, 0))] * 60))
        self.assertEqual(len(book), 60)
        self.assertEqual(book.log(), (("begin", 60), ("end", 60)))

    def test_drawn_deeds_beside_the_model(self):
        rng = random.Random(121)
        for _ in range(60):
            model = drawn_model(rng, rng.choice((5, 101)), rng.randrange(1, 8), rng.randrange(2, 6))
            book = Book(model.p, model.moments[0][0], first_hands(model))
            ahead, deeds, refusal = seen_of(book), [], None
            for _ in range(rng.randrange(12)):
                deed = model.drawn_deed(rng)
                deeds.append(deed)
                refusal = model.refusal(deed)
                if refusal is not None:
                    break
                model.do(deed)
            self.assertEqual(refused_by(lambda: book.tried(deeds)), refusal)
            if refusal is None:
                self.assertEqual(book.its_deeds(), tuple(deeds))
                self.assertEqual([book.heard((name,)) for name in book.names()],
                                 [rows for name, rows in sorted(model.moments[-1][2].items())])
            else:
                self.assertEqual(seen_of(book), ahead)


class NoDeeds(unittest.TestCase):
    def no_deeds(self):
        return [
            *odd_things(), 0, "hide", ("back",), ("tried", ()), ("log",), ("Call", "ann", (1, 0)), ("call",),
            ("call", "ann"), ("call", "ann", (1, 0), None), ("whisper", ("ann",)), ("meet",), ("meet", "ann", "bob"),
            ("hide", None), ("change", 0), ("come", "dan"), ("go",), ("go", "ann", "bob"), ["hide"], ["go", "ann"],
            (["hide"],), (("hide",),), (None,), ("",), ({"hide": 0},), (True, "ann"), ("hide", ()), ("perform", ()),
        ]

    def test_a_thing_that_is_none(self):
        for thing in self.no_deeds():
            for at in range(3):
                for kind in (list, tuple):
                    book = filled(2)
                    ahead = seen_of(book)
                    deeds = kind((("hide",),) * at + (thing,) + (WRONG, thing))
                    before = repr(deeds)
                    told = refused_by(lambda: book.tried(deeds))
                    self.assertEqual(told, ("NoDeed", at), repr(thing)[:80])
                    self.assertEqual(seen_of(book), ahead)
                    self.assertEqual(book.log(), (("begin", at + 3), ("end", 0)))
                    self.assertEqual(repr(deeds), before)

    def test_when_it_comes_to_be_done(self):
        self.assertEqual(refused_by(lambda: new_book().tried([WRONG, None])), ("NoHand", "zoe"))
        self.assertEqual(refused_by(lambda: new_book().tried([None, WRONG])), ("NoDeed", 0))
        seen = []
        deeds = [("hide",), ("hide",), ("back",)]
        told = refused_by(lambda: new_book().tried(deeds, tell=lambda book: seen.append(len(book))))
        self.assertEqual((told, seen), (("NoDeed", 2), [1, 2]))

    def test_ahead_of_long(self):
        self.assertEqual(refused_by(lambda: filled(60).tried([None])), ("NoDeed", 0))
        self.assertEqual(refused_by(lambda: filled(59).tried([("hide",), ("back",)])), ("NoDeed", 1))
        self.assertEqual(refused_by(lambda: filled(60).tried([("hide",), None])), ("Long",))

    def test_no_list_or_tuple(self):
        for thing in (*odd_things(), 0, "hide", {"hide": ()}, [("hide",)] * 61, (None,) * 61, (("hide",),) * 70):
            if not isinstance(thing, (list, tuple)) or len(thing) > 60:
                for many in (0, 60):
                    book = filled(many)
                    ahead, before = seen_of(book), repr(thing)
                    self.assertEqual(refused_by(lambda: book.tried(thing)), ("NoDeed", None))
                    self.assertEqual(refused_by(lambda: book.tried(thing, tell=self.fail)), ("NoDeed", None))
                    self.assertEqual((seen_of(book), book.log()), (ahead, ()))
                    self.assertEqual(repr(thing), before)

    def test_sixty_things_are_such_a_list(self):
        self.assertEqual(refused_by(lambda: new_book().tried([None] * 60)), ("NoDeed", 0))
        self.assertEqual(refused_by(lambda: new_book().tried((("hide",),) * 6 + (None,) * 54)), ("NoDeed", 6))


class Tell(unittest.TestCase):
    def test_called_behind_each_deed_with_the_book(self):
        book, seen = filled(1), []
        ahead = filled(1)

        def tell(told):
            self.assertIs(told, book)
            done_by(ahead, GOOD[len(seen)])
            seen.append(seen_of(told))
            self.assertEqual(seen[-1], seen_of(ahead))
            self.assertEqual(told, ahead)
            self.assertEqual(told.log(), (("begin", 7),))

        self.assertIsNone(book.tried(GOOD, tell=tell))
        self.assertEqual(len(seen), 7)
        self.assertEqual(seen_of(book), seen[-1])

    def test_all_may_be_asked_within_it(self):
        seen = []

        def tell(told):
            many = len(told)
            told.learned(many - 1)
            told.learned(0)
            told.stand(at=0)
            told.common(told.names())
            told.idle()
            for at in (None, *range(many + 1)):
                row = (0,) * told.stand(at=at)[1]
                self.assertIs(told.knows((), row, at=at), True)
                self.assertEqual(told.why(told.names(at=at), row, at=at)[0], "makes")
                told.heard((), at=at)
            self.assertEqual(refused_by(lambda: told.names(at=many + 1)), ("NoMoment", many + 1))
            self.assertEqual(refused_by(lambda: told.learned(many)), ("NoMoment", many))
            seen.append(str(told))

        book = new_book()
        book.tried(GOOD[:3], tell=tell)
        self.assertEqual(seen, [f"2 numbers by 5, 3 hands, {many} deeds" for many in (1, 2, 3)])

    def test_not_behind_a_deed_that_is_refused(self):
        for at in range(4):
            book, seen = new_book(), []
            refused_by(lambda: book.tried((*GOOD[:at], WRONG, *GOOD[at:]), tell=lambda told: seen.append(len(told))))
            self.assertEqual(seen, list(range(1, at + 1)))

    def test_a_list_that_it_changes(self):
        for change in (
            lambda deeds: deeds.clear(), lambda deeds: deeds.append(WRONG), lambda deeds: deeds.reverse(),
            lambda deeds: deeds.insert(0, None), lambda deeds: deeds.__setitem__(1, WRONG), lambda deeds: deeds.pop(),
        ):
            book, deeds = new_book(), list(GOOD)
            book.tried(deeds, tell=lambda told: change(deeds))
            self.assertEqual(book.its_deeds(), GOOD)
            self.assertEqual(book.log(), (("begin", 7), ("end", 7)))

    def test_a_list_within_a_deed_that_it_changes(self):
        for word, refusal in (("go", "NoHand"), ("call", "NoHand"), ("come", "NoName"), ("change", "NoPlace")):
            for make in (lambda inner: inner, lambda inner: (inner,), lambda inner: {"a": inner}):
                inner = ["ann"]
                things = (make(inner),) + ((1, 0),) * (word != "go")
                deeds = [("call", "ann", (1, 0)), (word, *things)]
                told = refused_by(lambda: new_book().tried(deeds, tell=lambda book: inner.append("bob")))
                self.assertEqual(told, (refusal, make(["ann"])))

    def test_a_deed_that_is_a_list_stays_none(self):
        deeds = [("hide",), ["hide"]]
        told = refused_by(lambda: new_book().tried(deeds, tell=lambda book: deeds.__setitem__(1, ("hide",))))
        self.assertEqual(told, ("NoDeed", 1))

    def test_what_it_raises_goes_through(self):
        for wrong in (Stop("x"), ValueError("y"), KeyError("z"), StopIteration(), KeyboardInterrupt()):
            for last in (1, 2, 7):
                book = filled(2)
                ahead = seen_of(book)

                def tell(told):
                    if len(told) == 2 + last:
                        raise wrong

                with self.assertRaises(type(wrong)) as caught:
                    book.tried(GOOD, tell=tell)
                self.assertIs(caught.exception, wrong)
                self.assertEqual(seen_of(book), ahead)
                self.assertEqual(book.log(), (("begin", 7), ("end", 0)))
                self.assertIsNone(book.tried(GOOD))
                self.assertIsNone(book.back())

    def test_no_tell_at_all(self):
        book = new_book()
        book.tried(GOOD, tell=None)
        self.assertEqual(len(book), 7)


class BusyBook(unittest.TestCase):
    def deeds(self):
        good = [("call", "ann", (1, 0)), ("whisper", ("ann",), (1, 0)), ("meet", ("ann", "bob")), ("hide",),
                ("change", 0, (1, 0)), ("come", "dan", ()), ("go", "ann"), ("back",), ("tried", ()), ("tried", GOOD)]
        odd = [(word, thing, thing) for word in ("call", "whisper", "change", "come") for thing in odd_things()]
        return good + odd + [(word, thing) for word in ("meet", "go", "tried") for thing in (*odd_things(), [None])]

    def test_each_deed_whatever_it_is_handed(self):
        for many in (0, 59):
            book = filled(many)

            def tell(told):
                ahead = (seen_of(told), told.log())
                for deed in self.deeds():
                    self.assertEqual(refused_by(lambda: done_by(told, deed)), ("Busy",), repr(deed)[:80])
                self.assertEqual(refused_by(lambda: told.tried((), tell=self.fail)), ("Busy",))
                self.assertEqual((seen_of(told), told.log()), ahead)

            book.tried([("hide",)], tell=tell)
            self.assertEqual(len(book), many + 1)
            self.assertEqual(book.log(), (("begin", 1), ("end", 1)))

    def test_busy_that_goes_through_tell(self):
        book = new_book()
        ahead = seen_of(book)
        self.assertEqual(refused_by(lambda: book.tried(GOOD, tell=lambda told: told.hide())), ("Busy",))
        self.assertEqual((seen_of(book), book.log()), (ahead, (("begin", 7), ("end", 0))))
        self.assertIsNone(book.hide())

    def test_another_book_isn_t_busy(self):
        book, other = new_book(), new_book()

        def tell(told):
            other.hide()
            other.back()
            other.tried([("hide",)], tell=lambda inner: self.assertEqual(refused_by(told.hide), ("Busy",)))
            other.back()

        book.tried(GOOD, tell=tell)
        self.assertEqual((len(book), len(other)), (7, 0))

    def test_not_busy_behind_it(self):
        book = new_book()
        book.tried(GOOD[:3], tell=lambda told: None)
        self.assertIsNone(book.hide())
        refused_by(lambda: book.tried([WRONG]))
        self.assertIsNone(book.hide())


class Log(unittest.TestCase):
    def test_its_last_10_rows(self):
        book, rows = new_book(), []
        for many in range(14):
            deeds = [("call", "ann", (1, 0))] * (many % 4) + [WRONG] * (many % 3 == 0)
            refused_by(lambda: book.tried(deeds))
            rows += [("begin", len(deeds)), ("end", 0 if many % 3 == 0 else len(deeds))]
            self.assertEqual(book.log(), tuple(rows[-10:]))
            self.assertTrue(only_tuples(book.log()))

    def test_as_it_begins(self):
        book, seen = new_book(), []
        for _ in range(7):
            book.tried([("call", "ann", (1, 0))] * 2, tell=lambda told: seen.append(told.log()))
            self.assertEqual(seen[-1][-1], ("begin", 2))
            self.assertEqual(seen[-1], seen[-2])
        self.assertEqual(len(seen[-1]), 10)
        self.assertEqual(seen[-1], (("end", 2), *(("begin", 2), ("end", 2)) * 4, ("begin", 2)))

    def test_deeds_and_back_are_not_in_it(self):
        book = new_book()
        book.hide()
        book.tried([("hide",)])
        book.back()
        book.back()
        refused_by(book.back)
        self.assertEqual(book.log(), (("begin", 1), ("end", 1)))


if __name__ == "__main__":
    unittest.main()
