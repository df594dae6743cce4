"""Point 14, and of point 18 at_one: stands."""

import itertools
import random
import unittest

from opencalls import errors
from opencalls.books import Book
from opencalls.stands import at_one, behind, is_stand, size_of
from things import (
    LONG_NUMBERS, TEST_PRIMES, Asking, bent, combined, done_by, drawn_model, drawn_row, drawn_stands, first_hands,
    has_row, is_right_stand, odd_things, only_tuples, plain_of, rank_of,
)

STAND = (5, 3, ((1, 0, 2),), (("ann", ((1, 0, 2),)), ("bob", ((1, 0, 2), (0, 1, 3))), ("cy", ((1, 0, 0), (0, 0, 1)))))


class IsStand(Asking):
    def judge(self, thing):
        self.assert_judged(is_right_stand(thing), is_stand, thing)

    def test_drawn_stands(self):
        for rng, stand in drawn_stands(141, 4):
            self.assert_judged(True, is_stand, stand)

    def test_stands_told_by_books(self):
        rng = random.Random(142)
        for _ in range(12):
            model = drawn_model(rng, rng.choice((5, 101)), rng.randrange(1, 7), rng.randrange(2, 7))
            book = Book(model.p, model.moments[0][0], first_hands(model))
            for _ in range(15):
                deed = model.drawn_deed(rng)
                if model.refusal(deed) is None:
                    done_by(book, deed)
                    model.do(deed)
                self.assert_judged(True, is_stand, book.stand())

    def test_any_part_bent(self):
        for thing in bent(STAND):
            self.judge(thing)
        for rng, stand in drawn_stands(143, 1, (7, 101)):
            things = list(bent(stand))
            for thing in rng.sample(things, min(len(things), 250)):
                self.judge(thing)

    def with_hands(self, *hands):
        return STAND[:3] + (hands,)

    def test_names(self):
        ann, bob, cy = STAND[3]
        for hands in ((bob, ann), (ann, ann), (ann, cy, bob), (ann, bob, bob), (ann, bob, cy, ann)):
            self.assert_judged(False, is_stand, self.with_hands(*hands))
        for name in ("", "Bob", "bob1", "b b", "bobbobbob", "bob\n", None, 1, True, ("bob",), ["bob"]):
            self.assert_judged(False, is_stand, self.with_hands(ann, (name, bob[1])))
        self.assert_judged(True, is_stand, self.with_hands(ann, ("bobbobbo", bob[1])))

    def test_how_many_hands(self):
        room = STAND[2]
        for many in range(10):
            hands = tuple((name, room) for name in "abcdefghij"[:many])
            self.assert_judged(2 <= many <= 6, is_stand, self.with_hands(*hands))

    def test_rooms(self):
        ann = STAND[3][0]
        for room in (
            (), ((0, 1, 0),), ((0, 1, 0), (0, 0, 1)), ((1, 0, 1),), ((2, 0, 4),), ((0, 1, 3), (1, 0, 2)),
            ((1, 0, 2), (1, 0, 2)), ((1, 0, 2), (0, 0, 0)), [(1, 0, 2)], ([1, 0, 2],), ((True, 0, 2),), None, (1, 0, 2),
            ((1, 0),), ((1, 0, 2, 0),), ((1, 0, 7),), (((1, 0, 2),),),
        ):
            self.assert_judged(False, is_stand, self.with_hands(ann, ("bob", room)))
        for known in (((2, 0, 4),), [(1, 0, 2)], None, ((1, 0, 1),), ((1, 0, 2), (0, 1, 0)), ((True, 0, 2),), (0,)):
            self.assert_judged(False, is_stand, STAND[:2] + (known,) + STAND[3:])
        self.assert_judged(True, is_stand, STAND[:2] + ((),) + STAND[3:])

    def test_p_and_n(self):
        rest = ((), (("ann", ()), ("bob", ())))
        for p in (*range(-2, 120), *LONG_NUMBERS, *odd_things()):
            self.assert_judged(type(p) is int and p in TEST_PRIMES, is_stand, (p, 1) + rest)
        for n in (*range(-2, 12), *LONG_NUMBERS, *odd_things()):
            self.assert_judged(type(n) is int and 1 <= n <= 8, is_stand, (5, n) + rest)
        self.assert_judged(False, is_stand, (7, 4) + STAND[2:])
        self.assert_judged(False, is_stand, (5, 2) + STAND[2:])

    def test_things_of_any_kind(self):
        self.assert_judged(True, is_stand, STAND)
        self.assert_judged(False, is_stand, list(STAND))
        for thing in (*odd_things(), 0, *LONG_NUMBERS, str(STAND)):
            self.judge(thing)
            for at in range(4):
                self.judge(STAND[:at] + (thing,) + STAND[at + 1:])
            for at in range(3):
                ahead, later = STAND[3][:at], STAND[3][at + 1:]
                name, room = STAND[3][at]
                for pair in (thing, (thing, room), (name, thing), (name, room, thing), (name, (thing,)), [name, room]):
                    self.judge(STAND[:3] + (ahead + (pair,) + later,))


class Behind(Asking):
    def assert_refused(self, name, field, *things):
        before = repr(things)
        for _ in range(2):
            with self.assertRaises((ValueError, LookupError), msg=before[:200]) as caught:
                behind(*things)
            self.assertIs(type(caught.exception), getattr(errors, name))
            for told in vars(caught.exception).values():
                self.assertIs(told, field)
        self.assertEqual(repr(things), before)

    def test_beside_a_book(self):
        rng = random.Random(144)
        for _ in range(25):
            p, n = rng.choice((5, 7, 101)), rng.randrange(1, 9)
            model = drawn_model(rng, p, n, rng.randrange(2, 7))
            book = Book(p, n, first_hands(model))
            for _ in range(5):
                name = rng.choice(book.names())
                heard = book.heard((name,))
                row = combined(p, n, heard, drawn_row(rng, p, len(heard)))
                told = self.ask(behind, book.stand(), name, row)
                book.call(name, row)
                self.assertEqual(told, book.stand())
                self.assertTrue(only_tuples(told) and is_right_stand(told))

    def test_reckoned(self):
        for rng, stand in drawn_stands(145, 3):
            p, n, known, hands = stand
            name, room = rng.choice(hands)
            row = combined(p, n, room, drawn_row(rng, p, len(room)))
            told = self.ask(behind, stand, name, row)
            rooms = tuple((other, plain_of(p, n, heard + (row,))) for other, heard in hands)
            self.assertEqual(told, (p, n, plain_of(p, n, known + (row,)), rooms))

    def test_not_known(self):
        many = 0
        for rng, stand in drawn_stands(146, 3):
            p, n, known, hands = stand
            row = drawn_row(rng, p, n)
            for name, room in hands:
                if not has_row(p, room, row):
                    self.assert_refused("NotKnown", name, stand, name, row)
                    many += 1
        self.assertGreater(many, 100)

    def test_no_hand_ahead_of_no_row(self):
        for thing in (*odd_things(), 0, *LONG_NUMBERS, "zoe", "Ann", ("bob",), ["bob"], {"bob": 0}):
            if thing != "ann":
                for row in ((0, 0, 0), (1, 1, 1), None, [0, 0, 0]):
                    self.assert_refused("NoHand", thing, STAND, thing, row)

    def test_no_row(self):
        for thing in (*odd_things(), 0, [0, 0, 0], (0, 0), (0, 0, 5), (0, 0, -1), (0, 0, False), (0, 0, 0, 0), "0 0 0"):
            for name in ("ann", "bob", "cy"):
                self.assert_refused("NoRow", None, STAND, name, thing)

    def test_by_hand(self):
        both, whole = ((1, 0, 2), (0, 1, 3)), ((1, 0, 0), (0, 1, 0), (0, 0, 1))
        wanted = (5, 3, both, (("ann", both), ("bob", both), ("cy", whole)))
        self.assertEqual(behind(STAND, "bob", (0, 2, 1)), wanted)
        self.assertEqual(behind(STAND, "ann", (2, 0, 4)), STAND)
        self.assertEqual(behind(STAND, "ann", (0, 0, 0)), STAND)


class Sizes(Asking):
    def groups(self, stand, least):
        names = [name for name, room in stand[3]]
        return [group for many in range(least, len(names) + 1) for group in itertools.combinations(names, many)]

    def test_size_of(self):
        for rng, stand in drawn_stands(147, 3):
            p, n, known, hands = stand
            for group in self.groups(stand, 0):
                told = self.ask(size_of, stand, group)
                self.assertIs(type(told), int)
                rows = known + sum([room for name, room in hands if name in group], ())
                self.assertEqual(told, rank_of(p, rows) - len(known))

    def test_of_none_0(self):
        for rng, stand in drawn_stands(148, 2):
            self.assertEqual(self.ask(size_of, stand, ()), 0)

    def test_at_one(self):
        answers = []
        for rng, stand in drawn_stands(149, 3):
            p, n, known, hands = stand
            for group in self.groups(stand, 2):
                rooms = [room for name, room in hands if name in group]
                together = rank_of(p, sum(rooms, ()))
                answers.append(all(len(room) == together for room in rooms))
                self.assert_judged(answers[-1], at_one, stand, group)
        self.assertTrue(50 < answers.count(True) < len(answers) - 50)

    def test_at_one_behind_a_meeting(self):
        rng = random.Random(150)
        for _ in range(20):
            model = drawn_model(rng, 7, rng.randrange(1, 9), rng.randrange(2, 7))
            book = Book(7, model.moments[0][0], first_hands(model))
            group = tuple(sorted(rng.sample(book.names(), 2)))
            book.meet(group)
            self.assert_judged(True, at_one, book.stand(), group)

    def test_by_hand(self):
        self.assertEqual(size_of(STAND, ("ann",)), 0)
        self.assertEqual(size_of(STAND, ("bob",)), 1)
        self.assertEqual(size_of(STAND, ("bob", "cy")), 2)
        self.assertEqual(size_of(STAND, ("ann", "bob", "cy")), 2)
        self.assert_judged(False, at_one, STAND, ("ann", "bob"))
        self.assert_judged(False, at_one, STAND, ("bob", "cy"))
        self.assert_judged(True, at_one, behind(STAND, "bob", (0, 1, 3)), ("ann", "bob"))
        # Rooms of one size may still be two rooms.
        self.assert_judged(False, at_one, (5, 2, (), (("a", ((1, 0),)), ("b", ((0, 1),)))), ("a", "b"))


if __name__ == "__main__":
    unittest.main()
