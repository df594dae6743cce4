"""Points 10 and 11: what a book is made of, its deeds, who hears what, and their refusals."""

import random
import unittest

from opencalls import books, errors
from opencalls.books import DEEDS, Book
from things import (
    LONG_NUMBERS, Model, done_by, drawn_model, drawn_row, first_hands, odd_things, only_tuples, plain_of, refused_by,
    seen_of, worth_at,
)

HANDS = (("ann", ((1, 0, 0),)), ("bob", ((0, 1, 0), (1, 1, 1))), ("cy", ()))
NOT_NAMES = ("", "Ann", "ann1", "a b", "abcdefghi", "ann\n", "a-b", "~")


def book_of(model):
    n, called, hands = model.moments[0]
    return Book(model.p, n, first_hands(model))


class DeedTest(unittest.TestCase):
    def assert_as_model(self, book, model, at=None):
        n, called, hands = model.moments[-1 if at is None else at]
        self.assertEqual(book.names(at=at), tuple(sorted(hands)))
        self.assertEqual(book.heard((), at=at), called)
        for name, rows in hands.items():
            self.assertEqual(book.heard((name,), at=at), rows)
        self.assertEqual(len(book), len(model.deeds))
        self.assertEqual(book.its_deeds(), tuple(model.deeds))
        self.assertTrue(only_tuples(book.its_deeds()) and only_tuples(book.heard((), at=at)))

    def assert_refused(self, book, deed, name, *fields):
        """The refusal, with the very things handed in as its fields, and nothing changed."""
        ahead, handed = (seen_of(book), book.log()), repr(deed)
        with self.assertRaises(getattr(errors, name), msg=handed[:200]) as caught:
            done_by(book, deed)
        self.assertIs(type(caught.exception), getattr(errors, name))
        told = tuple(vars(caught.exception).values())
        self.assertEqual(len(told), len(fields))
        for one, other in zip(told, fields):
            self.assertIs(one, other)
        self.assertEqual((seen_of(book), book.log()), ahead)
        self.assertEqual(repr(deed), handed)


class Made(DeedTest):
    def test_at_first(self):
        book = Book(11, 3, HANDS)
        self.assertEqual(book.names(), ("ann", "bob", "cy"))
        self.assertEqual(book.heard(()), ())
        for name, rows in HANDS:
            self.assertEqual(book.heard((name,)), rows)
        self.assertEqual((len(book), book.its_deeds(), book.log()), (0, (), ()))

    def test_two_to_six_hands_of_none_to_eight_rows(self):
        rng = random.Random(101)
        for many in range(2, 7):
            for p, n in ((5, 1), (101, 8)):
                hands = tuple((name, tuple(drawn_row(rng, p, n) for _ in range(9 - many))) for name in "abcdef"[:many])
                book = Book(p, n, hands)
                self.assertEqual(book.names(), tuple("abcdef"[:many]))
                self.assertEqual(book.heard(book.names()), sum([rows for name, rows in hands], ()))

    def test_deeds_is_60(self):
        self.assertIs(type(books.DEEDS), int)
        self.assertEqual(DEEDS, 60)


class Heard(DeedTest):
    def test_call(self):
        book = Book(11, 3, HANDS)
        self.assertIsNone(book.call("bob", (2, 3, 2)))
        self.assertEqual(book.heard(()), ((2, 3, 2),))
        for name, rows in HANDS:
            self.assertEqual(book.heard((name,)), rows + ((2, 3, 2),))
        self.assertIsNone(book.call("cy", (4, 6, 4)))
        self.assertEqual(book.heard(("cy",)), ((2, 3, 2), (4, 6, 4)))
        self.assertIsNone(book.call("ann", (0, 0, 0)))
        self.assertEqual(book.heard(()), ((2, 3, 2), (4, 6, 4), (0, 0, 0)))

    def test_whisper(self):
        book = Book(11, 3, HANDS)
        self.assertIsNone(book.whisper(("ann", "cy"), (7, 7, 7)))
        self.assertEqual(book.heard(("ann",)), ((1, 0, 0), (7, 7, 7)))
        self.assertEqual(book.heard(("bob",)), HANDS[1][1])
        self.assertEqual(book.heard(("cy",)), ((7, 7, 7),))
        self.assertEqual(book.heard(()), ())
        self.assertIsNone(book.whisper(("bob",), (0, 0, 0)))
        self.assertEqual(book.heard(("bob",)), HANDS[1][1] + ((0, 0, 0),))

    def test_meet(self):
        book = Book(11, 3, HANDS)
        self.assertIsNone(book.meet(("ann", "bob")))
        self.assertEqual(book.heard(("ann",)), ((1, 0, 0), (0, 1, 0), (0, 0, 1)))
        self.assertEqual(book.heard(("bob",)), ((0, 1, 0), (1, 1, 1), (1, 0, 0)))
        self.assertEqual(book.heard(("cy",)), ())
        self.assertEqual(book.heard(()), ())

    def test_a_meeting_tells_no_row_that_those_ahead_made_known(self):
        # dan knows the sum of both rows: behind the first one it knows the second one, too.
        book = Book(5, 2, (("ann", ((1, 0), (0, 1))), ("dan", ((1, 1),))))
        book.meet(("ann", "dan"))
        self.assertEqual(book.heard(("dan",)), ((1, 1), (1, 0)))

    def test_meet_twice_at_once(self):
        rng = random.Random(102)
        for _ in range(20):
            model = drawn_model(rng, 7, rng.randrange(1, 9), rng.randrange(2, 7))
            book = book_of(model)
            names = tuple(sorted(rng.sample(book.names(), 2)))
            book.meet(names)
            heard = [book.heard((name,)) for name in book.names()]
            book.meet(names)
            self.assertEqual([book.heard((name,)) for name in book.names()], heard)
            self.assertEqual(len(book), 2)

    def test_hide_to_eight_numbers(self):
        book = Book(11, 3, HANDS)
        book.call("ann", (5, 0, 0))
        for many in range(1, 6):
            self.assertIsNone(book.hide())
            self.assertEqual(book.heard(()), ((5, 0, 0) + (0,) * many,))
            for name, rows in HANDS:
                self.assertEqual(book.heard((name,)), tuple(row + (0,) * many for row in rows + ((5, 0, 0),)))
        self.assert_refused(book, ("hide",), "Full")
        book.back()
        book.hide()
        self.assert_refused(book, ("hide",), "Full")

    def test_change_along_with_worlds(self):
        rng = random.Random(103)
        for p in (5, 7, 101):
            for n in range(1, 9):
                model = drawn_model(rng, p, n, 3)
                book = book_of(model)
                book.call(book.names()[0], (0,) * n)
                for _ in range(4):
                    self.check_change(rng, book, p, n)

    def check_change(self, rng, book, p, n):
        place, row = rng.randrange(n), drawn_row(rng, p, n)
        row = row[:place] + (rng.randrange(1, p),) + row[place + 1:]
        groups = ((),) + tuple((name,) for name in book.names())
        ahead = [book.heard(group) for group in groups]
        self.assertIsNone(book.change(place, row))
        behind = [book.heard(group) for group in groups]
        for world in [drawn_row(rng, p, n) for _ in range(n + 2)]:
            later = world[:place] + (worth_at(p, row, world),) + world[place + 1:]
            for rows, led in zip(ahead, behind):
                self.assertEqual([worth_at(p, one, world) for one in rows], [worth_at(p, one, later) for one in led])

    def test_come(self):
        book = Book(11, 3, HANDS)
        book.call("bob", (2, 2, 2))
        book.call("bob", (0, 3, 0))
        book.call("bob", (2, 5, 2))
        self.assertIsNone(book.come("bea", ((9, 9, 9), (1, 1, 1))))
        self.assertEqual(book.names(), ("ann", "bea", "bob", "cy"))
        self.assertEqual(book.heard(("bea",)), ((9, 9, 9), (1, 1, 1), (1, 0, 1), (0, 1, 0)))
        self.assertEqual(book.heard(("cy",)), ((2, 2, 2), (0, 3, 0), (2, 5, 2)))
        self.assertIsNone(book.come("abcdefgh", ()))
        self.assertEqual(book.names(), ("abcdefgh", "ann", "bea", "bob", "cy"))
        self.assertEqual(book.heard(("abcdefgh",)), ((1, 0, 1), (0, 1, 0)))
        self.assertIsNone(book.come("zoe", ((1, 2, 3),) * 8))
        self.assertEqual(book.heard(("zoe",)), ((1, 2, 3),) * 8 + ((1, 0, 1), (0, 1, 0)))

    def test_come_under_a_name_that_was_there_before(self):
        book = Book(11, 3, HANDS)
        book.go("ann")
        self.assertEqual(book.names(), ("bob", "cy"))
        book.come("ann", ((0, 0, 4),))
        self.assertEqual(book.names(), ("ann", "bob", "cy"))
        self.assertEqual(book.heard(("ann",)), ((0, 0, 4),))
        self.assertEqual(book.heard(("ann",), at=0), ((1, 0, 0),))

    def test_go_down_to_two_hands(self):
        book = Book(11, 3, HANDS)
        self.assertIsNone(book.go("bob"))
        self.assertEqual(book.names(), ("ann", "cy"))
        self.assertEqual(book.heard(("ann", "cy")), ((1, 0, 0),))
        for name in ("ann", "cy"):
            self.assert_refused(book, ("go", name), "Few")


class AgainstTheModel(DeedTest):
    def test_drawn_deeds(self):
        rng = random.Random(104)
        for _ in range(25):
            model = drawn_model(rng, rng.choice((5, 7, 31, 101)), rng.randrange(1, 9), rng.randrange(2, 7))
            book = book_of(model)
            for _ in range(40):
                self.step(rng, book, model)
            for at in range(len(model.moments)):
                self.assert_as_model(book, model, at)

    def step(self, rng, book, model):
        if model.deeds and rng.randrange(6) == 0:
            self.assertIsNone(book.back())
            model.back()
        else:
            deed = model.drawn_deed(rng)
            wanted = model.refusal(deed)
            self.assertEqual(refused_by(lambda: done_by(book, deed)), wanted, deed)
            if wanted is None:
                model.do(deed)
        self.assert_as_model(book, model)

    def test_drawn_things_of_any_kind(self):
        rng = random.Random(105)
        for _ in range(6):
            model = drawn_model(rng, 5, rng.choice((1, 2, 8)), rng.choice((2, 3, 6)))
            book = book_of(model)
            for _ in range(150):
                deed = self.odd_deed(rng, model)
                wanted = model.refusal(deed)
                if wanted is None:
                    self.assertIsNone(done_by(book, deed))
                    model.do(deed)
                else:
                    self.assert_refused(book, deed, *wanted)
                self.assert_as_model(book, model)

    def odd_deed(self, rng, model):
        deed = list(model.drawn_deed(rng))
        row = (1,) * model.moments[-1][0]
        for at in range(1, len(deed)):
            if rng.randrange(2):
                deed[at] = rng.choice((*odd_things(), 0, -1, row, [row], (row,), ((row,),), ("ann", "bob"), "zoe", "Z"))
        return tuple(deed)


class Refused(DeedTest):
    def setUp(self):
        self.book = Book(11, 3, HANDS)
        self.book.call("ann", (1, 0, 0))

    def no_rows(self):
        return [*odd_things(), 0, [1, 0, 0], (1, 0), (1, 0, 0, 0), (1, 0, 11), (1, 0, -1), (1, 0, True), "1 0 0"]

    def no_groups(self):
        things = [thing for thing in odd_things() if thing != () or type(thing) is not tuple]
        return things + [0, "ann", ["ann", "bob"], ("bob", "ann"), ("ann", "ann"), ("ann", 1), ("ann", None),
                         ("ann", ("bob",)), ("ann", ["bob"]), {"ann": 1}, *[("ann", name) for name in NOT_NAMES],
                         *[(name, "zoe") for name in NOT_NAMES], ("zoe", "ann")]

    def test_call_of_no_hand(self):
        for thing in (*odd_things(), *NOT_NAMES, 0, *LONG_NUMBERS, "zoe", ("bob",), ["ann"], {"ann": "ann"}):
            if thing != "ann":
                for row in ((1, 0, 0), (9, 9, 9), None):
                    self.assert_refused(self.book, ("call", thing, row), "NoHand", thing)

    def test_call_of_no_row(self):
        for thing in self.no_rows():
            self.assert_refused(self.book, ("call", "ann", thing), "NoRow")

    def test_call_of_a_row_not_known(self):
        self.book.back()
        unknown = {"ann": ((0, 1, 0), (1, 0, 1)), "bob": ((1, 0, 0), (0, 0, 1)), "cy": ((1, 0, 0), (0, 0, 10))}
        for name, rows in unknown.items():
            for row in rows:
                self.assert_refused(self.book, ("call", name, row), "NotKnown", name)

    def test_whisper_and_meet_of_no_group(self):
        for thing in (*self.no_groups(), ()):
            for row in ((1, 0, 0), None):
                self.assert_refused(self.book, ("whisper", thing, row), "NoGroup")
            self.assert_refused(self.book, ("meet", thing), "NoGroup")
        for name in ("ann", "zoe"):
            self.assert_refused(self.book, ("meet", (name,)), "NoGroup")

    def test_whisper_and_meet_of_no_hand(self):
        for group, name in ((("abe", "ann", "zoe"), "abe"), (("ann", "zoe", "zora"), "zoe"), (("bea", "zoe"), "bea")):
            for row in ((1, 0, 0), None):
                self.assert_refused(self.book, ("whisper", group, row), "NoHand", name)
            self.assert_refused(self.book, ("meet", group), "NoHand", name)
        self.assert_refused(self.book, ("whisper", ("zoe",), [0]), "NoHand", "zoe")

    def test_whisper_of_no_row(self):
        for thing in self.no_rows():
            self.assert_refused(self.book, ("whisper", ("ann", "bob"), thing), "NoRow")

    def test_change_of_no_place(self):
        for thing in (*odd_things(), -1, 3, 4, -3, *LONG_NUMBERS, "0", (0,), [0], {"0": 0}):
            for row in ((1, 1, 1), (0, 0, 0), None):
                self.assert_refused(self.book, ("change", thing, row), "NoPlace", thing)

    def test_change_of_no_row_and_no_turn(self):
        for place in range(3):
            for thing in self.no_rows():
                self.assert_refused(self.book, ("change", place, thing), "NoRow")
            row = [1, 1, 1]
            row[place] = 0
            self.assert_refused(self.book, ("change", place, tuple(row)), "NoTurn")
            self.assert_refused(self.book, ("change", place, (0, 0, 0)), "NoTurn")

    def test_a_place_that_is_hidden_later(self):
        self.assert_refused(self.book, ("change", 3, (1, 1, 1)), "NoPlace", 3)
        self.book.hide()
        self.assert_refused(self.book, ("change", 3, (1, 1, 1)), "NoRow")
        self.assertIsNone(self.book.change(3, (1, 1, 1, 1)))

    def test_come_of_no_name(self):
        for thing in (*odd_things(), *NOT_NAMES, 0, ("zoe",), ["zoe"]):
            if thing not in ("ann",):
                for rows in ((), ((1, 0, 0),), None):
                    self.assert_refused(self.book, ("come", thing, rows), "NoName", thing)

    def test_come_of_a_name_that_is_there(self):
        for name in ("ann", "bob", "cy"):
            for rows in ((), None):
                self.assert_refused(self.book, ("come", name, rows), "Taken", name)

    def test_come_with_no_rows(self):
        for thing in self.no_rows():
            self.assert_refused(self.book, ("come", "zoe", (thing,)), "NoRow")
            self.assert_refused(self.book, ("come", "zoe", ((1, 0, 0), thing)), "NoRow")
            if thing != () or type(thing) is not tuple:
                self.assert_refused(self.book, ("come", "zoe", thing), "NoRow")
        self.assert_refused(self.book, ("come", "zoe", ((1, 0, 0),) * 9), "NoRow")
        self.assert_refused(self.book, ("come", "zoe", [(1, 0, 0)]), "NoRow")

    def test_come_where_six_are_there(self):
        for name in ("dan", "eli", "fay"):
            self.book.come(name, ())
        self.assert_refused(self.book, ("come", "zoe", ()), "Full")
        self.assert_refused(self.book, ("come", "zoe", None), "NoRow")
        self.assert_refused(self.book, ("come", "fay", None), "Taken", "fay")
        self.assert_refused(self.book, ("come", "Zoe", None), "NoName", "Zoe")
        self.book.go("cy")
        self.assertIsNone(self.book.come("zoe", ()))

    def test_go_of_no_hand(self):
        self.book.go("cy")
        for thing in (*odd_things(), *NOT_NAMES, 0, "cy", "zoe", ("ann",), ["ann"]):
            if thing != "ann":
                self.assert_refused(self.book, ("go", thing), "NoHand", thing)
        self.assert_refused(self.book, ("go", "ann"), "Few")


class Back(DeedTest):
    def test_over_deeds_of_every_kind_to_the_very_beginning(self):
        book, model = Book(11, 3, HANDS), Model(11, 3, HANDS)
        deeds = [
            ("call", "bob", (1, 1, 1)), ("whisper", ("ann", "cy"), (5, 5, 0)), ("meet", ("ann", "bob")), ("hide",),
            ("change", 1, (1, 2, 3, 4)), ("come", "dan", ((0, 0, 1, 0),)), ("go", "ann"),
        ]
        seen = [seen_of(book)]
        for deed in deeds[:4]:
            done_by(book, deed)
            model.do(deed)
            seen.append(seen_of(book))
        book.tried(deeds[4:], tell=lambda told: seen.append(seen_of(told)))
        for deed in deeds[4:]:
            model.do(deed)
        self.assert_as_model(book, model)
        while model.deeds:
            self.assertEqual(seen_of(book), seen.pop())
            self.assertIsNone(book.back())
            model.back()
            self.assert_as_model(book, model)
        self.assertEqual(seen_of(book), seen.pop())
        self.assertEqual(book, Book(11, 3, HANDS))
        self.assert_refused(book, ("back",), "NothingBack")

    def test_nothing_back_at_first(self):
        book = Book(11, 3, HANDS)
        self.assert_refused(book, ("back",), "NothingBack")
        book.hide()
        book.back()
        self.assert_refused(book, ("back",), "NothingBack")

    def test_another_way_behind_it(self):
        book = Book(11, 3, HANDS)
        book.hide()
        book.back()
        book.call("ann", (1, 0, 0))
        self.assertEqual(book.its_deeds(), (("call", "ann", (1, 0, 0)),))
        self.assertEqual(book.heard(("cy",)), ((1, 0, 0),))


class LongBooks(DeedTest):
    def test_long_at_60_deeds_ahead_of_all_else(self):
        book = Book(11, 8, (("ann", ()), ("bob", ((0,) * 8,))))
        for many in range(60):
            self.assertEqual(len(book), many)
            book.call("ann", (0,) * 8)
        row = (0,) * 8
        for deed in (
            ("call", "ann", row), ("call", None, None), ("call", "ann", (1,) * 8), ("whisper", ("ann",), row),
            ("whisper", None, None), ("meet", ("ann", "bob")), ("meet", ()), ("hide",), ("change", 0, (1,) * 8),
            ("change", None, None), ("change", 0, row), ("come", "zoe", ()), ("come", None, None), ("come", "ann", ()),
            ("go", "ann"), ("go", None),
        ):
            self.assert_refused(book, deed, "Long")
        self.assertIsNone(book.back())
        self.assertIsNone(book.meet(("ann", "bob")))
        self.assert_refused(book, ("hide",), "Long")

    def test_sixty_deeds_of_every_kind(self):
        rng = random.Random(106)
        model = drawn_model(rng, 101, 3, 4)
        book = book_of(model)
        while len(model.deeds) < 60:
            deed = model.drawn_deed(rng)
            if model.refusal(deed) is None:
                done_by(book, deed)
                model.do(deed)
        for at in range(61):
            self.assert_as_model(book, model, at)
            n, called, hands = model.moments[at]
            for name, rows in hands.items():
                self.assertEqual(book.known((name,), at=at), plain_of(101, n, rows))
        self.assertEqual(refused_by(book.hide), ("Long",))


if __name__ == "__main__":
    unittest.main()
