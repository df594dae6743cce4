"""Point 9: the rows of a room and the alike worlds, by their numbers."""

import random
import unittest

from opencalls.numbers import alike_at, are_alike, number_of, row_at
from opencalls.rooms import across, room_of
from things import Asking, all_rows, combined, drawn_row, drawn_rows, has_row, is_rests, span_of, worth_at

SOME_PRIMES = (5, 7, 13, 53, 101)


def some_rooms(seed, primes, lengths):
    rng = random.Random(seed)
    for p in primes:
        for n in lengths:
            for many in range(n + 2):
                yield p, n, room_of(p, n, drawn_rows(rng, p, n, many)), rng


class Rows(Asking):
    def test_all_numbers_of_small_rooms_there_and_back(self):
        for p, n, room, rng in some_rooms(91, (5, 7), (1, 2, 3)):
            made = [self.ask(row_at, p, n, room, number) for number in range(p ** len(room))]
            self.assertEqual(len(set(made)), len(made))
            self.assertEqual(set(made), span_of(p, n, room))
            for number, row in enumerate(made):
                self.assertTrue(is_rests(p, n, row))
                told = self.ask(number_of, p, room, row)
                self.assertIs(type(told), int)
                self.assertEqual(told, number)

    def test_none_where_the_room_hasn_t_the_row(self):
        for p, n, room, rng in some_rooms(92, (5, 7), (1, 2)):
            made = span_of(p, n, room)
            for row in all_rows(p, n):
                told = self.ask(number_of, p, room, row)
                self.assertEqual(told is not None, row in made)

    def test_figures_are_the_factors_in_order(self):
        for p, n, room, rng in some_rooms(93, SOME_PRIMES, range(1, 9)):
            size = len(room)
            for _ in range(6):
                factors = drawn_row(rng, p, size)
                number = sum(a * p ** (size - 1 - k) for k, a in enumerate(factors))
                row = self.ask(row_at, p, n, room, number)
                self.assertEqual(row, combined(p, n, room, factors))
                self.assertEqual(self.ask(number_of, p, room, row), number)

    def test_the_first_and_the_last_number(self):
        for p, n, room, rng in some_rooms(94, SOME_PRIMES, range(1, 9)):
            last = p ** len(room) - 1
            self.assertEqual(self.ask(row_at, p, n, room, 0), (0,) * n)
            self.assertEqual(self.ask(number_of, p, room, (0,) * n), 0)
            row = self.ask(row_at, p, n, room, last)
            self.assertEqual(row, combined(p, n, room, (p - 1,) * len(room)))
            self.assertEqual(self.ask(number_of, p, room, row), last)

    def test_drawn_rows_of_greater_rooms(self):
        for p, n, room, rng in some_rooms(95, SOME_PRIMES, range(1, 9)):
            row = drawn_row(rng, p, n)
            told = self.ask(number_of, p, room, row)
            self.assertEqual(told is not None, has_row(p, room, row))
            if told is not None:
                self.assertEqual(row_at(p, n, room, told), row)

    def test_rooms_of_size_0(self):
        for p in SOME_PRIMES:
            for n in range(1, 9):
                self.assertEqual(self.ask(row_at, p, n, (), 0), (0,) * n)
                self.assertEqual(self.ask(number_of, p, (), (0,) * n), 0)
                self.assertIsNone(self.ask(number_of, p, (), (0,) * (n - 1) + (1,)))

    def test_by_hand(self):
        room = ((1, 0, 2), (0, 1, 3))
        self.assertEqual(row_at(5, 3, room, 7), (1, 2, 3))
        self.assertEqual(row_at(5, 3, room, 5), (1, 0, 2))
        self.assertEqual(row_at(5, 3, room, 1), (0, 1, 3))
        self.assertEqual(number_of(5, room, (4, 4, 0)), 24)
        self.assertIsNone(number_of(5, room, (4, 4, 1)))


class Alike(Asking):
    def test_each_alike_world_just_once(self):
        for p, n, room, rng in some_rooms(96, (5, 7), (1, 2, 3)):
            world = drawn_row(rng, p, n)
            many = p ** (n - len(room))
            told = [self.ask(alike_at, p, n, room, world, number) for number in range(many)]
            wanted = [
                other for other in all_rows(p, n)
                if all(worth_at(p, row, world) == worth_at(p, row, other) for row in room)
            ]
            self.assertEqual(sorted(told), wanted)
            self.assertEqual(told[0], world)
            for other in all_rows(p, n):
                self.assert_judged(other in told, are_alike, p, room, world, other)

    def test_the_row_at_that_number_of_across_is_added(self):
        for p, n, room, rng in some_rooms(97, SOME_PRIMES, range(1, 9)):
            world = drawn_row(rng, p, n)
            self.assertEqual(self.ask(alike_at, p, n, room, world, 0), world)
            for number in {rng.randrange(p ** (n - len(room))) for _ in range(4)}:
                told = self.ask(alike_at, p, n, room, world, number)
                self.assertTrue(is_rests(p, n, told))
                added = row_at(p, n, across(p, n, room), number)
                self.assertEqual(told, tuple((a + b) % p for a, b in zip(world, added)))
                self.assert_judged(True, are_alike, p, room, world, told)

    def test_are_alike(self):
        for p, n, room, rng in some_rooms(98, SOME_PRIMES, range(1, 9)):
            one, other = drawn_row(rng, p, n), drawn_row(rng, p, n)
            same = all(worth_at(p, row, one) == worth_at(p, row, other) for row in room)
            self.assert_judged(same, are_alike, p, room, one, other)
            self.assert_judged(same, are_alike, p, room, other, one)
            self.assert_judged(True, are_alike, p, room, one, one)
            self.assert_judged(True, are_alike, p, (), one, other)

    def test_by_hand(self):
        self.assertEqual(alike_at(5, 2, ((1, 0),), (3, 4), 2), (3, 1))
        self.assertEqual(alike_at(5, 2, ((1, 0), (0, 1)), (3, 4), 0), (3, 4))
        self.assertEqual(alike_at(5, 2, (), (3, 4), 6), (4, 0))


if __name__ == "__main__":
    unittest.main()
