"""Point 13: what a book is asked, now and of each moment."""

import itertools
import unittest

from opencalls.books import Book
from opencalls.rooms import shared
from opencalls.stands import is_stand
from things import (
    LONG_NUMBERS, Asking, combined, done_by, drawn_books, drawn_row, has_row, is_plain, is_rests, odd_things,
    only_tuples, plain_of, rank_of, seen_of, span_of, worth_at,
)

HANDS = (("ann", ((1, 0),)), ("bob", ((0, 1),)), ("cy", ()))
DEEDS = (
    ("call", "ann", (3, 0)), ("call", "bob", (1, 0)), ("whisper", ("cy",), (2, 2)), ("hide",),
    ("come", "dan", ((0, 0, 1),)), ("go", "cy"), ("meet", ("ann", "dan")), ("change", 1, (1, 2, 3)),
)


def book_by(deeds):
    book = Book(5, 2, HANDS)
    for deed in deeds:
        done_by(book, deed)
    return book


def groups_of(names):
    return [group for many in range(len(names) + 1) for group in itertools.combinations(sorted(names), many)]


class AskTest(Asking):
    def assert_refused(self, name, field, function, *things, **named):
        """Asked twice, refused twice; the field is the very thing that was handed in."""
        before = repr((things, named))
        for _ in range(2):
            with self.assertRaises((ValueError, LookupError), msg=before[:200]) as caught:
                function(*things, **named)
            self.assertEqual(type(caught.exception).__name__, name, before[:200])
            for told in vars(caught.exception).values():
                self.assertIs(told, field)
        self.assertEqual(repr((things, named)), before)


class AtEachMoment(AskTest):
    def test_names_heard_and_known(self):
        for rng, book, model in drawn_books(131, 12, 20):
            for at, (n, called, hands) in [(None, model.moments[-1]), *enumerate(model.moments)]:
                self.assertEqual(self.ask(book.names, at=at), tuple(sorted(hands)))
                for group in rng.sample(groups_of(hands), 4) + [(), tuple(sorted(hands))]:
                    rows = sum([hands[name] for name in group], ()) if group else called
                    self.assertEqual(self.ask(book.heard, group, at=at), rows)
                    told = self.ask(book.known, group, at=at)
                    self.assertEqual(told, plain_of(model.p, n, rows))
                    self.assertTrue(only_tuples(told) and is_plain(model.p, n, told))

    def test_now_is_the_last_moment(self):
        for rng, book, model in drawn_books(132, 6, 10):
            last, names = len(book), book.names()
            self.assertEqual(book.names(at=last), names)
            self.assertEqual(book.heard(names), book.heard(names, at=last))
            self.assertEqual(book.known(names), book.known(names, at=last))
            self.assertEqual(book.common(names), book.common(names, at=last))
            self.assertEqual(book.stand(), book.stand(at=last))

    def test_common_by_5_one_by_one(self):
        for rng, book, model in drawn_books(133, 10, 8, (5,)):
            for at, (n, called, hands) in enumerate(model.moments):
                if n <= 3:
                    for group in rng.sample(groups_of(hands)[1:], 3):
                        told = self.ask(book.common, group, at=at)
                        self.assertTrue(is_plain(5, n, told))
                        spans = [span_of(5, n, hands[name]) for name in group]
                        self.assertEqual(span_of(5, n, told), set.intersection(*spans))

    def test_common_of_more_numbers(self):
        for rng, book, model in drawn_books(134, 10, 15):
            for at, (n, called, hands) in enumerate(model.moments):
                group = rng.choice(groups_of(hands)[1:])
                told = self.ask(book.common, group, at=at)
                self.assertTrue(is_plain(model.p, n, told))
                self.assertTrue(all(has_row(model.p, hands[name], row) for name in group for row in told))
                room = plain_of(model.p, n, hands[group[0]])
                for name in group[1:]:
                    room = shared(model.p, n, room, plain_of(model.p, n, hands[name]))
                self.assertEqual(told, room)

    def test_knows_beside_why(self):
        for rng, book, model in drawn_books(135, 12, 20):
            for at, (n, called, hands) in [(None, model.moments[-1]), *enumerate(model.moments)]:
                for group in rng.sample(groups_of(hands), 2) + [()]:
                    heard = book.heard(group, at=at)
                    made = combined(model.p, n, heard, drawn_row(rng, model.p, len(heard)))
                    for row in (made, drawn_row(rng, model.p, n), (0,) * n):
                        self.check_why(book, model.p, n, heard, group, row, at)

    def check_why(self, book, p, n, heard, group, row, at):
        known = self.ask(book.knows, group, row, at=at)
        told = self.ask(book.why, group, row, at=at)
        self.assertIs(known, has_row(p, heard, row))
        self.assertTrue(type(told) is tuple and len(told) == 2 and only_tuples(told))
        word, paper = told
        self.assertEqual(word, "makes" if known else "parted")
        if known:
            self.assertTrue(is_rests(p, len(heard), paper))
            self.assertEqual(combined(p, n, heard, paper), row)
        else:
            one, other = paper
            self.assertTrue(is_rests(p, n, one) and is_rests(p, n, other))
            self.assertTrue(all(worth_at(p, part, one) == worth_at(p, part, other) for part in heard))
            self.assertNotEqual(worth_at(p, row, one), worth_at(p, row, other))

    def test_stand(self):
        for rng, book, model in drawn_books(136, 12, 20):
            for at, (n, called, hands) in [(None, model.moments[-1]), *enumerate(model.moments)]:
                told = self.ask(book.stand, at=at)
                rooms = tuple((name, plain_of(model.p, n, hands[name])) for name in sorted(hands))
                self.assertEqual(told, (model.p, n, plain_of(model.p, n, called), rooms))
                self.assertTrue(only_tuples(told))
                self.assertIs(is_stand(told), True)


class OfDeeds(AskTest):
    def test_learned(self):
        for rng, book, model in drawn_books(137, 12, 25):
            for number in range(len(model.deeds)):
                ahead, behind = model.moments[number][2], model.moments[number + 1][2]
                wanted = []
                for name in sorted(behind):
                    more = rank_of(model.p, behind[name]) - rank_of(model.p, ahead.get(name, ()))
                    if more > 0:
                        wanted.append((name, more))
                told = self.ask(book.learned, number)
                self.assertEqual(told, tuple(wanted))
                self.assertTrue(only_tuples(told))

    def test_learned_of_each_deed_by_hand(self):
        book = book_by(DEEDS)
        self.assertEqual(book.learned(0), (("bob", 1), ("cy", 1)))
        self.assertEqual(book.learned(1), ())
        self.assertEqual(book.learned(2), (("cy", 1),))
        self.assertEqual(book.learned(3), ())
        self.assertEqual(book.learned(4), (("dan", 2),))
        self.assertEqual(book.learned(5), ())
        self.assertEqual(book.learned(6), (("ann", 1),))
        self.assertEqual(book.learned(7), ())

    def test_learned_of_a_hand_that_comes(self):
        book = Book(5, 2, HANDS)
        book.come("dan", ())
        book.come("eli", ((0, 0),))
        book.come("fay", ((0, 1), (0, 2)))
        self.assertEqual([book.learned(number) for number in range(3)], [(), (), (("fay", 1),)])

    def test_learned_of_one_that_knew_more_before_it_went(self):
        book = Book(5, 2, HANDS)
        book.go("ann")
        book.come("ann", ((1, 0),))
        self.assertEqual(book.learned(1), (("ann", 1),))

    def test_learned_of_no_deed(self):
        for many in (0, 3, len(DEEDS)):
            book = book_by(DEEDS[:many])
            ahead = seen_of(book)
            for thing in (*odd_things(), -1, -many, many, many + 1, 60, *LONG_NUMBERS, "0", (0,), [0]):
                if type(thing) is not int or not 0 <= thing < many:
                    self.assert_refused("NoMoment", thing, book.learned, thing)
            self.assertEqual(seen_of(book), ahead)
        book.back()
        self.assert_refused("NoMoment", 7, book.learned, 7)

    def test_idle(self):
        for rng, book, model in drawn_books(138, 12, 30):
            wanted = []
            for number, deed in enumerate(model.deeds):
                if deed[0] == "call" and has_row(model.p, model.moments[number][1], deed[2]):
                    wanted.append(number)
            told = self.ask(book.idle)
            self.assertEqual(told, tuple(wanted))
            self.assertIs(type(told), tuple)

    def test_idle_by_hand(self):
        self.assertEqual(Book(5, 2, HANDS).idle(), ())
        self.assertEqual(book_by(DEEDS).idle(), (1,))
        book = book_by([("call", "ann", (0, 0)), ("call", "ann", (1, 0)), ("hide",), ("call", "bob", (2, 0, 0))])
        self.assertEqual(book.idle(), (0, 3))
        book.back()
        self.assertEqual(book.idle(), (0,))

    def test_its_deeds_and_len(self):
        book = Book(5, 2, HANDS)
        for many, deed in enumerate(DEEDS):
            self.assertEqual(self.ask(book.its_deeds), DEEDS[:many])
            self.assertEqual(self.ask(len, book), many)
            done_by(book, deed)
        self.assertTrue(only_tuples(book.its_deeds()))
        for many in range(len(DEEDS) - 1, -1, -1):
            book.back()
            self.assertEqual((book.its_deeds(), len(book)), (DEEDS[:many], many))


class Refused(AskTest):
    def questions(self, book):
        """Each question with hands, as a function of the hands, and whether () is a group to it."""
        return (
            (book.heard, (), True), (book.known, (), True), (book.common, (), False),
            (book.knows, ((0, 0, 0),), True), (book.why, ((0, 0, 0),), True),
            (book.knows, (None,), True), (book.why, ([0, 0, 0],), True),
        )

    def no_moments(self, many):
        return [thing for thing in odd_things() if thing is not None] + [
            -1, many + 1, many + 2, 61, *LONG_NUMBERS, "0", "None", (0,), [None], {"at": 0}]

    def test_no_moment_ahead_of_all_else(self):
        for many in (0, 4, len(DEEDS)):
            book = book_by(DEEDS[:many])
            ahead = seen_of(book)
            for at in self.no_moments(many):
                self.assert_refused("NoMoment", at, book.names, at=at)
                self.assert_refused("NoMoment", at, book.stand, at=at)
                for hands in (("ann",), (), None, ("zoe",), ["ann"]):
                    for question, things, empty in self.questions(book):
                        self.assert_refused("NoMoment", at, question, hands, *things, at=at)
            self.assertEqual(seen_of(book), ahead)

    def test_no_group(self):
        book = book_by(DEEDS)
        ahead = seen_of(book)
        for hands in (
            *odd_things(), 0, "ann", ["ann"], ["ann", "bob"], ("bob", "ann"), ("ann", "ann"), ("ann", None), ("Ann",),
            ("ann", "bob "), ("",), ("abcdefghi",), (("ann",),), ("zoe", "ann"), {"ann": 0}, ("zoe", 1), ("ann\n",),
        ):
            for question, things, empty in self.questions(book):
                if not (type(hands) is tuple and hands == ()):
                    self.assert_refused("NoGroup", None, question, hands, *things)
                    self.assert_refused("NoGroup", None, question, hands, *things, at=4)
        self.assert_refused("NoGroup", None, book.common, ())
        self.assert_refused("NoGroup", None, book.common, (), at=0)
        self.assertEqual(seen_of(book), ahead)

    def test_no_hand_of_that_moment(self):
        book = book_by(DEEDS)
        for hands, name in ((("zoe",), "zoe"), (("abe", "ann", "zoe"), "abe"), (("ann", "zoe"), "zoe")):
            for question, things, empty in self.questions(book):
                for at in (None, *range(len(book) + 1)):
                    self.assert_refused("NoHand", name, question, hands, *things, at=at)
        for question, things, empty in self.questions(book):
            for at in (6, 7, 8, None):
                self.assert_refused("NoHand", "cy", question, ("ann", "cy"), *things, at=at)
            for at in range(5):
                self.assert_refused("NoHand", "dan", question, ("ann", "dan"), *things, at=at)
        self.assertEqual(book.heard(("cy",), at=5), ((3, 0, 0), (1, 0, 0), (2, 2, 0)))
        self.assertEqual(book.heard(("dan",), at=5), ((0, 0, 1), (1, 0, 0)))

    def test_no_row_of_that_moment(self):
        book = book_by(DEEDS)
        for hands in ((), ("ann",), ("ann", "bob")):
            for row in (*odd_things(), 0, [0, 0, 0], (0, 0), (0, 0, 5), (0, -1, 0), (0, 0, False), (0,) * 4, "0 0 0"):
                self.assert_refused("NoRow", None, book.knows, hands, row)
                self.assert_refused("NoRow", None, book.why, hands, row)
            for at in range(4):
                self.assert_refused("NoRow", None, book.knows, hands, (0, 0, 0), at=at)
                self.assert_refused("NoRow", None, book.why, hands, (0, 0, 0), at=at)
                self.assertIs(book.knows(hands, (0, 0), at=at), True)
            for at in range(4, 9):
                self.assert_refused("NoRow", None, book.knows, hands, (0, 0), at=at)
                self.assertIs(book.knows(hands, (0, 0, 0), at=at), True)

    def test_at_and_tell_are_handed_in_by_name(self):
        book = book_by(DEEDS)
        for call in (
            lambda: book.names(0), lambda: book.stand(0), lambda: book.heard((), 0), lambda: book.known((), 0),
            lambda: book.common(("ann",), 0), lambda: book.knows((), (0, 0), 0), lambda: book.why((), (0, 0), 0),
            lambda: book.tried((), None),
        ):
            self.assertRaises(TypeError, call)


class Equal(AskTest):
    def assert_equal(self, one, other, same):
        self.assertIs(one == other, same)
        self.assertIs(other == one, same)
        self.assertIs(one != other, not same)

    def test_made_of_the_same_with_the_same_deeds(self):
        for many in range(len(DEEDS) + 1):
            for other in range(len(DEEDS) + 1):
                self.assert_equal(book_by(DEEDS[:many]), book_by(DEEDS[:other]), many == other)

    def test_made_of_other_things(self):
        book = Book(5, 2, HANDS)
        self.assert_equal(book, Book(5, 2, tuple(list(HANDS))), True)
        for other in (
            Book(7, 2, HANDS), Book(5, 2, HANDS[:2]), Book(5, 2, HANDS[:2] + (("dan", ()),)),
            Book(5, 2, HANDS[:2] + (("cy", ((0, 0),)),)), Book(5, 2, (("ann", ((2, 0),)),) + HANDS[1:]),
        ):
            self.assert_equal(book, other, False)
        bare = (("ann", ()), ("bob", ()))
        self.assert_equal(Book(5, 1, bare), Book(5, 2, bare), False)
        later = Book(5, 1, bare)
        later.hide()
        self.assert_equal(later, Book(5, 2, bare), False)

    def test_other_deeds_of_the_same_effect(self):
        self.assert_equal(book_by([("call", "ann", (1, 0))]), book_by([("call", "ann", (2, 0))]), False)
        self.assert_equal(book_by([("call", "ann", (0, 0))]), book_by([("call", "bob", (0, 0))]), False)

    def test_back_and_tried_and_the_log_make_no_difference(self):
        one, other = book_by(DEEDS), Book(5, 2, HANDS)
        other.tried(list(DEEDS))
        self.assert_equal(one, other, True)
        one.back()
        self.assert_equal(one, other, False)
        other.back()
        self.assert_equal(one, other, True)

    def test_to_nothing_else(self):
        book = book_by(DEEDS)
        things = [*odd_things(), 0, 8, book.its_deeds(), (5, 2, HANDS), book.stand(), str(book), object()]
        for thing in things:
            self.assert_equal(book, thing, False)
        self.assert_equal(Book(5, 2, HANDS), (), False)


class Shown(AskTest):
    def test_str(self):
        book = Book(11, 3, tuple((name, ()) for name in "abcd"))
        self.assertEqual(self.ask(str, book), "3 numbers by 11, 4 hands, 0 deeds")
        book.hide()
        self.assertEqual(self.ask(str, book), "4 numbers by 11, 4 hands, 1 deeds")
        book.go("a")
        self.assertEqual(self.ask(str, book), "4 numbers by 11, 3 hands, 2 deeds")
        book.back()
        book.back()
        self.assertEqual(self.ask(str, book), "3 numbers by 11, 4 hands, 0 deeds")
        book.call("a", (0, 0, 0))
        book.call("a", (0, 0, 0))
        self.assertEqual(str(book), "3 numbers by 11, 4 hands, 2 deeds")
        self.assertEqual(str(Book(101, 1, (("a", ()), ("b", ())))), "1 numbers by 101, 2 hands, 0 deeds")


class ChangedAfterwards(AskTest):
    def test_what_was_handed_in(self):
        book, other = Book(5, 2, HANDS), book_by(DEEDS)
        deeds = list(DEEDS)
        book.tried(deeds)
        deeds.clear()
        self.assertEqual(seen_of(book), seen_of(other))
        for wrong in ([("hide",), ["go", "ann"]], [("go", ["ann"])], [("come", "eli", [(0, 0, 0)])]):
            self.assertRaises((ValueError, LookupError), book.tried, wrong)
            wrong.clear()
            self.assertEqual(seen_of(book), seen_of(other))

    def test_lists_and_dicts_that_are_refused(self):
        book, other = book_by(DEEDS), book_by(DEEDS)
        for word, things in (
            ("call", (["ann"], (0, 0, 0))), ("call", ("ann", [0, 0, 0])), ("whisper", (["ann"], (0, 0, 0))),
            ("meet", (["ann", "bob"],)), ("change", ({"at": 0}, (1, 0, 0))), ("come", ("eli", [[0, 0, 0]])),
            ("go", ({"ann": "ann"},)),
        ):
            self.assertRaises((ValueError, LookupError), getattr(book, word), *things)
            for thing in things:
                if isinstance(thing, (list, dict)):
                    thing.clear()
            self.assertEqual(seen_of(book), seen_of(other))

    def test_nothing_that_is_told_can_be_changed(self):
        book = book_by(DEEDS)
        book.tried([("hide",)])
        for told in (
            book.names(), book.heard(book.names()), book.known(("ann",)), book.common(book.names()), book.idle(),
            book.why((), (1, 2, 3, 0)), book.why(("ann",), (0, 0, 0, 0)), book.learned(4), book.its_deeds(), book.log(),
            book.stand(),
        ):
            self.assertTrue(only_tuples(told), told)


if __name__ == "__main__":
    unittest.main()
