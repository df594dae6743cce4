"""Points 6 and 7: rooms, their plain form, and what is reckoned with them."""

import itertools
import random
import unittest

from opencalls.rooms import across, inside, is_room, joined, left_of, room_of, shared, within
from things import (
    LONG_NUMBERS, Asking, all_rows, bent, combined, drawn_row, drawn_rows, has_row, is_plain, is_rests, odd_things,
    rank_of, span_of, worth_at,
)

SOME_PRIMES = (5, 7, 13, 53, 101)
FEW = ((5, 1), (5, 2), (5, 3), (7, 1), (7, 2))


def unit_rows(n):
    return tuple(tuple(1 if at == k else 0 for at in range(n)) for k in range(n))


def each_room(p, n):
    """Every room of rows of n rests, by its plain form written out."""
    for size in range(n + 1):
        for firsts in itertools.combinations(range(n), size):
            holes = [(k, at) for k, first in enumerate(firsts) for at in range(first + 1, n) if at not in firsts]
            for rests in itertools.product(range(p), repeat=len(holes)):
                rows = [[1 if at == first else 0 for at in range(n)] for first in firsts]
                for (k, at), rest in zip(holes, rests):
                    rows[k][at] = rest
                yield tuple(map(tuple, rows))


def some_rooms(rng, p, n, many):
    """The empty room, the room of all rows, and drawn ones of each size."""
    rooms = list(each_room(p, n))
    drawn = [(), unit_rows(n)]
    for size in range(n + 1):
        of_size = [room for room in rooms if len(room) == size]
        drawn += rng.sample(of_size, min(many, len(of_size)))
    return drawn


class RoomOf(Asking):
    def check(self, p, n, rows):
        room = self.ask(room_of, p, n, rows)
        self.assertTrue(is_plain(p, n, room), (p, n, rows, room))
        self.assertEqual(len(room), rank_of(p, rows))
        # As large as what the rows make, and all of it made by them: so it is the same room.
        self.assertTrue(all(has_row(p, rows, row) for row in room))
        return room

    def test_none_to_ten_rows_of_one_to_eight_rests(self):
        rng = random.Random(61)
        for p in SOME_PRIMES:
            for n in range(1, 9):
                for many in range(11):
                    self.check(p, n, drawn_rows(rng, p, n, many))

    def test_of_noughts_and_of_none(self):
        for p in SOME_PRIMES:
            for n in range(1, 9):
                for many in range(4):
                    self.assertEqual(self.check(p, n, ((0,) * n,) * many), ())

    def test_all_rows(self):
        for n in range(1, 9):
            self.assertEqual(self.check(11, n, unit_rows(n)[::-1]), unit_rows(n))
            self.assertEqual(self.check(11, n, unit_rows(n) + ((3,) * n,) * 9), unit_rows(n))

    def test_rows_twice_and_made_rows(self):
        rng = random.Random(62)
        for p in SOME_PRIMES:
            for n in range(1, 9):
                rows = drawn_rows(rng, p, n, 4)
                made = combined(p, n, rows, drawn_row(rng, p, 4))
                room = self.check(p, n, rows)
                self.assertEqual(self.check(p, n, rows + rows), room)
                self.assertEqual(self.check(p, n, rows + (made,)), room)
                self.assertEqual(self.check(p, n, (made,) + rows), room)

    def test_one_form_however_the_room_is_told(self):
        rng = random.Random(63)
        for p in SOME_PRIMES:
            for n in range(1, 9):
                for many in range(6):
                    rows = drawn_rows(rng, p, n, many)
                    room = self.check(p, n, rows)
                    for _ in range(4):
                        other = [tuple(a * rest % p for rest in row) for row in rows for a in (rng.randrange(1, p),)]
                        other += [combined(p, n, rows, drawn_row(rng, p, many)) for _ in range(rng.randrange(3))]
                        rng.shuffle(other)
                        self.assertEqual(self.ask(room_of, p, n, tuple(other)), room)
                    self.assertEqual(self.ask(room_of, p, n, room), room)
                    self.assertEqual(self.ask(room_of, p, n, room[::-1]), room)

    def test_against_all_rows_one_by_one(self):
        rng = random.Random(64)
        for p, n in FEW + ((7, 3),):
            for many in range(5):
                for _ in range(6):
                    rows = drawn_rows(rng, p, n, many)
                    room = self.check(p, n, rows)
                    made = span_of(p, n, rows)
                    self.assertEqual(span_of(p, n, room), made)
                    self.assertEqual(len(made), p ** len(room))

    def test_every_room_of_few_numbers(self):
        for p, n in FEW:
            forms = list(each_room(p, n))
            spans = {frozenset(span_of(p, n, form)) for form in forms}
            self.assertEqual(len(spans), len(forms))
            for form in forms:
                self.assertEqual(self.ask(room_of, p, n, form), form)

    def test_by_hand(self):
        self.assertEqual(room_of(5, 3, ((2, 4, 1), (1, 2, 3))), ((1, 2, 3),))
        self.assertEqual(room_of(5, 3, ((0, 0, 3), (0, 2, 1))), ((0, 1, 0), (0, 0, 1)))
        self.assertEqual(room_of(7, 3, ((1, 1, 0), (0, 1, 1))), ((1, 0, 6), (0, 1, 1)))
        self.assertEqual(room_of(7, 1, ((0,), (3,))), ((1,),))
        self.assertEqual(room_of(101, 2, ((100, 1),)), ((1, 100),))


class IsRoom(Asking):
    def judge(self, p, n, thing):
        self.assert_judged(is_plain(p, n, thing), is_room, p, n, thing)

    def test_plain_forms(self):
        rng = random.Random(65)
        for p in SOME_PRIMES:
            for n in range(1, 9):
                for many in range(9):
                    self.assert_judged(True, is_room, p, n, room_of(p, n, drawn_rows(rng, p, n, many)))
        for p, n in FEW:
            for form in each_room(p, n):
                self.assert_judged(True, is_room, p, n, form)

    def test_every_pair_of_rows_by_5(self):
        for one in all_rows(5, 2):
            self.judge(5, 2, (one,))
            for other in all_rows(5, 2):
                self.judge(5, 2, (one, other))

    def test_bent_forms(self):
        rng = random.Random(66)
        for p in (5, 13, 101):
            for n in (1, 2, 3, 5, 8):
                for many in range(5):
                    room = room_of(p, n, drawn_rows(rng, p, n, many))
                    for thing in bent(room):
                        self.judge(p, n, thing)

    def test_a_row_more_fewer_twice_turned_about_or_several_times(self):
        rng = random.Random(67)
        for p in SOME_PRIMES:
            for n in range(2, 9):
                room = room_of(p, n, tuple(drawn_row(rng, p, n) for _ in range(n // 2 + 1)))
                self.judge(p, n, room + (drawn_row(rng, p, n),))
                self.judge(p, n, room[1:])
                self.assert_judged(True, is_room, p, n, room[:-1])
                self.assert_judged(False, is_room, p, n, room + room[-1:])
                self.assert_judged(False, is_room, p, n, ((0,) * n,) + room)
                self.assert_judged(False, is_room, p, n, room + ((0,) * n,))
                if len(room) > 1:
                    self.assert_judged(False, is_room, p, n, room[::-1])
                for k, row in enumerate(room):
                    for a in (2, p - 1):
                        other = tuple(a * rest % p for rest in row)
                        self.assert_judged(False, is_room, p, n, room[:k] + (other,) + room[k + 1:])

    def test_lists_and_truths(self):
        for thing in ([], [(1, 0)], ([1, 0],), [[1, 0]], ((True, 0),), ((1, False),), ((1, 0), [0, 1]), ((1, True),)):
            self.assert_judged(False, is_room, 5, 2, thing)
        self.assert_judged(True, is_room, 5, 2, ((1, 0), (0, 1)))

    def test_wrong_lengths_and_rests(self):
        for thing in (((1,),), ((1, 0, 0),), ((1, 5),), ((1, -1),), ((),), ((1, 0), (0, 1), ()), ((1, "0"),)):
            self.assert_judged(False, is_room, 5, 2, thing)

    def test_things_of_any_kind(self):
        for n in (1, 2, 8):
            for thing in (*odd_things(), 0, 1, *LONG_NUMBERS, "((1, 0),)"):
                self.assert_judged(thing == () and type(thing) is tuple, is_room, 7, n, thing)
                self.assert_judged(False, is_room, 7, n, (thing,))
                self.assert_judged(False, is_room, 7, n, ((1,) + (0,) * (n - 1), thing))


class Reckoned(Asking):
    """Against all rows, gone through one by one."""

    def test_within(self):
        rng = random.Random(71)
        for p, n in FEW:
            for room in some_rooms(rng, p, n, 6):
                made = span_of(p, n, room)
                for row in all_rows(p, n):
                    self.assert_judged(row in made, within, p, room, row)

    def test_inside(self):
        rng = random.Random(72)
        for p, n in FEW:
            rooms = some_rooms(rng, p, n, 5)
            spans = [span_of(p, n, room) for room in rooms]
            for one, first in zip(rooms, spans):
                for other, second in zip(rooms, spans):
                    self.assert_judged(first <= second, inside, p, one, other)

    def test_joined_and_shared(self):
        rng = random.Random(73)
        for p, n in FEW:
            rooms = some_rooms(rng, p, n, 4)
            for one in rooms:
                for other in rooms:
                    self.check_both(p, n, one, other)

    def check_both(self, p, n, one, other):
        first, second = span_of(p, n, one), span_of(p, n, other)
        both, common = self.ask(joined, p, n, one, other), self.ask(shared, p, n, one, other)
        self.assertTrue(is_plain(p, n, both) and is_plain(p, n, common))
        self.assertEqual(span_of(p, n, both), span_of(p, n, one + other))
        self.assertTrue(first | second <= span_of(p, n, both))
        self.assertEqual(span_of(p, n, common), first & second)
        self.assertEqual(len(both) + len(common), len(one) + len(other))
        self.assertEqual(self.ask(joined, p, n, other, one), both)
        self.assertEqual(self.ask(shared, p, n, other, one), common)

    def test_left_of(self):
        rng = random.Random(74)
        for p, n in FEW:
            for room in some_rooms(rng, p, n, 3):
                made = span_of(p, n, room)
                firsts = [row.index(1) for row in room]
                for row in all_rows(p, n):
                    left = self.ask(left_of, p, room, row)
                    self.assertTrue(is_rests(p, n, left))
                    self.assertIn(tuple((a - b) % p for a, b in zip(row, left)), made)
                    self.assertTrue(all(left[at] == 0 for at in firsts))

    def test_left_of_is_the_one_such_row(self):
        room = ((1, 0, 2), (0, 1, 3))
        made = span_of(5, 3, room)
        for row in all_rows(5, 3):
            others = [tuple((a - b) % 5 for a, b in zip(row, one)) for one in made]
            self.assertEqual([one for one in others if one[:2] == (0, 0)], [left_of(5, room, row)])

    def test_across(self):
        for p, n in FEW:
            rows = all_rows(p, n)
            for room in each_room(p, n):
                told = self.ask(across, p, n, room)
                self.assertTrue(is_plain(p, n, told))
                self.assertEqual(len(told), n - len(room))
                self.assertEqual(self.ask(across, p, n, told), room)
                wanted = {world for world in rows if all(worth_at(p, row, world) == 0 for row in room)}
                self.assertEqual(span_of(p, n, told), wanted)


class ManyNumbers(Asking):
    """By greater primes and more numbers, against the sizes and the sums that points 6 and 7 tell."""

    def drawn_rooms(self):
        rng = random.Random(75)
        for p in SOME_PRIMES:
            for n in range(1, 9):
                for _ in range(6):
                    rows = [drawn_rows(rng, p, n, rng.randrange(n + 1)) for _ in range(3)]
                    yield p, n, *[room_of(p, n, part) for part in (rows[0] + rows[2], rows[1] + rows[2])], rng

    def test_sizes(self):
        for p, n, one, other, rng in self.drawn_rooms():
            both, common = self.ask(joined, p, n, one, other), self.ask(shared, p, n, one, other)
            self.assertTrue(is_plain(p, n, both) and is_plain(p, n, common))
            self.assertEqual(len(both), rank_of(p, one + other))
            self.assertEqual(len(both) + len(common), len(one) + len(other))
            self.assertTrue(all(has_row(p, both, row) for row in one + other))
            self.assertTrue(all(has_row(p, one, row) and has_row(p, other, row) for row in common))
            self.assertEqual(joined(p, n, other, one), both)
            self.assertEqual(shared(p, n, other, one), common)

    def test_across(self):
        for p, n, one, other, rng in self.drawn_rooms():
            told = self.ask(across, p, n, one)
            self.assertTrue(is_plain(p, n, told))
            self.assertEqual(len(told), n - len(one))
            self.assertEqual(across(p, n, told), one)
            self.assertTrue(all(worth_at(p, row, world) == 0 for row in one for world in told))

    def test_within_inside_and_left_of(self):
        for p, n, one, other, rng in self.drawn_rooms():
            self.assert_judged(rank_of(p, one + other) == len(other), inside, p, one, other)
            made = combined(p, n, one, drawn_row(rng, p, len(one)))
            self.assert_judged(True, within, p, one, made)
            for row in (made, drawn_row(rng, p, n), (0,) * n):
                self.assert_judged(has_row(p, one, row), within, p, one, row)
                left = self.ask(left_of, p, one, row)
                self.assertTrue(is_rests(p, n, left))
                self.assertTrue(has_row(p, one, tuple((a - b) % p for a, b in zip(row, left))))
                self.assertTrue(all(left[plain.index(1)] == 0 for plain in one))

    def test_the_empty_room_and_the_room_of_all_rows(self):
        for p in SOME_PRIMES:
            for n in range(1, 9):
                whole, row = unit_rows(n), (p - 1,) * n
                self.assertEqual(self.ask(across, p, n, ()), whole)
                self.assertEqual(self.ask(across, p, n, whole), ())
                self.assertEqual(self.ask(joined, p, n, (), ()), ())
                self.assertEqual(self.ask(joined, p, n, (), whole), whole)
                self.assertEqual(self.ask(shared, p, n, (), whole), ())
                self.assertEqual(self.ask(shared, p, n, whole, whole), whole)
                self.assertEqual(self.ask(left_of, p, (), row), row)
                self.assertEqual(self.ask(left_of, p, whole, row), (0,) * n)
                self.assert_judged(True, within, p, (), (0,) * n)
                self.assert_judged(False, within, p, (), row)
                self.assert_judged(True, within, p, whole, row)
                self.assert_judged(True, inside, p, (), ())
                self.assert_judged(True, inside, p, (), whole)
                self.assert_judged(False, inside, p, whole, ())

    def test_by_hand(self):
        self.assertEqual(across(5, 2, ((1, 2),)), ((1, 2),))
        self.assertEqual(across(7, 3, ((1, 0, 6), (0, 1, 1))), ((1, 6, 1),))
        self.assertEqual(shared(5, 3, ((1, 0, 0), (0, 1, 0)), ((0, 1, 0), (0, 0, 1))), ((0, 1, 0),))
        self.assertEqual(joined(5, 3, ((1, 1, 0),), ((1, 0, 0),)), ((1, 0, 0), (0, 1, 0)))
        self.assertEqual(left_of(5, ((1, 0, 2),), (3, 1, 1)), (0, 1, 0))


if __name__ == "__main__":
    unittest.main()
