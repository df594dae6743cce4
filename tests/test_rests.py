"""Point 4, and point 3 of numbers: primes, rests and contraries."""

import unittest

from opencalls.rests import PRIMES, contrary, is_number, is_prime, is_rest
from things import LONG_NUMBERS, TEST_PRIMES, by_trial, odd_things


class Numbers(unittest.TestCase):
    def test_whole_numbers_are_numbers(self):
        for number in (*range(-20, 20), *LONG_NUMBERS):
            self.assertIs(is_number(number), True)

    def test_nothing_else_is_a_number(self):
        for thing in odd_things():
            with self.subTest(repr(thing)[:60]):
                self.assertIs(is_number(thing), False)


class Primes(unittest.TestCase):
    def test_primes_is_a_tuple_of_just_the_primes_from_5_to_101(self):
        self.assertIs(type(PRIMES), tuple)
        self.assertEqual(PRIMES, TEST_PRIMES)
        self.assertEqual((PRIMES[0], PRIMES[-1], len(PRIMES)), (5, 101, 24))
        for prime in PRIMES:
            self.assertIs(type(prime), int)

    def test_every_number_from_below_0_to_well_above_101(self):
        for number in range(-120, 1200):
            with self.subTest(number):
                self.assertIs(is_prime(number), 5 <= number <= 101 and by_trial(number))

    def test_2_and_3_and_103_are_none(self):
        for number in (2, 3, 103, 107):
            self.assertIs(is_prime(number), False)

    def test_long_numbers_are_none(self):
        for number in LONG_NUMBERS:
            self.assertIs(is_prime(number), False)

    def test_other_things_are_none_and_stay_as_they_were(self):
        for thing in (*odd_things(), PRIMES, list(PRIMES), {"p": 5}, (7, 11), "101"):
            with self.subTest(repr(thing)[:60]):
                before = repr(thing)
                self.assertIs(is_prime(thing), False)
                self.assertIs(is_prime(thing), False)
                self.assertEqual(repr(thing), before)


class Rests(unittest.TestCase):
    def test_numbers_from_0_to_below_p_are_rests(self):
        for p in TEST_PRIMES:
            for number in range(-p, 2 * p + 1):
                self.assertIs(is_rest(p, number), number >= 0 and number <= p - 1)

    def test_nothing_else_is_a_rest(self):
        for thing in (*odd_things(), *LONG_NUMBERS):
            with self.subTest(repr(thing)[:60]):
                self.assertIs(is_rest(101, thing), False)


class Contrary(unittest.TestCase):
    def test_every_rest_but_0_of_each_prime(self):
        for p in TEST_PRIMES:
            found = []
            for a in range(1, p):
                b = contrary(p, a)
                self.assertIs(type(b), int)
                self.assertTrue(1 <= b < p)
                self.assertEqual(a * b % p, 1)
                self.assertEqual(contrary(p, b), a)
                self.assertEqual(contrary(p, a), b)
                found.append(b)
            self.assertEqual(sorted(found), list(range(1, p)))

    def test_some_by_hand(self):
        self.assertEqual([contrary(5, a) for a in (1, 2, 3, 4)], [1, 3, 2, 4])
        self.assertEqual([contrary(7, a) for a in (1, 2, 3, 4, 5, 6)], [1, 4, 5, 2, 3, 6])
        self.assertEqual([contrary(101, a) for a in (1, 2, 100)], [1, 51, 100])


if __name__ == "__main__":
    unittest.main()
