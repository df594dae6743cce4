"""Point 11: rows led by a change."""

import random
import unittest

from opencalls.leads import led
from things import Asking, all_rows, drawn_row, is_rests, led_by_hand, worth_at

SOME_PRIMES = (5, 7, 13, 53, 101)


def changed(p, place, row, world):
    return world[:place] + (worth_at(p, row, world),) + world[place + 1:]


class Led(Asking):
    def test_worth_now_what_it_was_worth_ahead_at_every_world(self):
        rng = random.Random(111)
        for p, n in ((5, 1), (5, 2), (5, 3), (7, 2)):
            for place in range(n):
                for _ in range(5):
                    row = drawn_row(rng, p, n)
                    row = row[:place] + (rng.randrange(1, p),) + row[place + 1:]
                    one = drawn_row(rng, p, n)
                    told = self.ask(led, p, place, row, one)
                    self.assertTrue(is_rests(p, n, told))
                    for world in all_rows(p, n):
                        self.assertEqual(worth_at(p, told, changed(p, place, row, world)), worth_at(p, one, world))

    def test_more_numbers_and_greater_primes(self):
        rng = random.Random(112)
        for p in SOME_PRIMES:
            for n in range(1, 9):
                for place in range(n):
                    row = drawn_row(rng, p, n)
                    row = row[:place] + (rng.randrange(1, p),) + row[place + 1:]
                    for one in (drawn_row(rng, p, n), (0,) * n, row):
                        told = self.ask(led, p, place, row, one)
                        self.assertTrue(is_rests(p, n, told))
                        self.assertEqual(told, led_by_hand(p, place, row, one))
                        for world in [drawn_row(rng, p, n) for _ in range(5)]:
                            self.assertEqual(worth_at(p, told, changed(p, place, row, world)), worth_at(p, one, world))

    def test_the_row_itself_is_led_to_the_new_number(self):
        for place in range(3):
            told = [0, 0, 0]
            told[place] = 1
            self.assertEqual(led(11, place, (3, 4, 5), (3, 4, 5)), tuple(told))

    def test_by_hand(self):
        self.assertEqual(led(5, 0, (1, 0), (3, 4)), (3, 4))
        self.assertEqual(led(5, 0, (2, 0), (3, 4)), (4, 4))
        self.assertEqual(led(5, 1, (1, 1), (0, 1)), (4, 1))
        self.assertEqual(led(5, 1, (1, 1), (1, 0)), (1, 0))


if __name__ == "__main__":
    unittest.main()
