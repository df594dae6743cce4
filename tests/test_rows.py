"""Point 5: rows, and what is reckoned with them."""

import unittest

from opencalls.rows import added, is_row, made_of, times, worth
from things import LONG_NUMBERS, TEST_PRIMES, odd_things

SOME_PRIMES = (5, 7, 11, 53, 101)


def some_rows(p, n):
    """Rows with noughts, ones and p - 1 among them, and some mixed ones."""
    rows = [(0,) * n, (1,) * n, (p - 1,) * n]
    rows += [tuple(1 if at == k else 0 for at in range(n)) for k in range(n)]
    rows += [tuple((0, 1, p - 1)[(at + k) % 3] for at in range(n)) for k in range(3)]
    rows += [tuple((k * k + 3 * at * k + at + 2) % p for at in range(n)) for k in range(1, 6)]
    return rows


def some_rests(p):
    return sorted({0, 1, 2, p // 2, p - 2, p - 1})


class RowTest(unittest.TestCase):
    def assert_row(self, p, n, thing):
        self.assertIs(type(thing), tuple)
        self.assertEqual(len(thing), n)
        for part in thing:
            self.assert_rest(p, part)

    def assert_rest(self, p, thing):
        self.assertIs(type(thing), int)
        self.assertTrue(0 <= thing <= p - 1)


class IsRow(RowTest):
    def assert_told(self, p, n, thing, answer):
        before = repr(thing)
        self.assertIs(is_row(p, n, thing), answer, (p, n, before[:80]))
        self.assertIs(is_row(p, n, thing), answer, (p, n, before[:80]))
        self.assertEqual(repr(thing), before)

    def test_rows(self):
        for p in TEST_PRIMES:
            for n in range(1, 9):
                for row in some_rows(p, n):
                    self.assert_told(p, n, row, True)

    def test_every_row_of_two_rests_by_5(self):
        for a in range(-2, 8):
            for b in range(-2, 8):
                self.assert_told(5, 2, (a, b), a in range(5) and b in range(5))

    def test_one_wrong_part_at_each_place(self):
        for p in SOME_PRIMES:
            wrong = [p, p + 1, 2 * p, -1, -p, True, False, *LONG_NUMBERS, *odd_things(), (0,), [0], ((0,),), "0", "1"]
            for n in range(1, 9):
                for at in range(n):
                    for part in wrong:
                        row = [1] * n
                        row[at] = part
                        self.assert_told(p, n, tuple(row), False)

    def test_too_short_and_too_long(self):
        for p in SOME_PRIMES:
            for n in range(1, 9):
                for length in range(0, 12):
                    self.assert_told(p, n, (0,) * length, length == n)
                    self.assert_told(p, n, (p - 1,) * length, length == n)

    def test_a_list_is_no_row(self):
        for n in range(1, 9):
            self.assert_told(7, n, [0] * n, False)
            self.assert_told(7, n, [[0] * n], False)

    def test_tuples_within_are_no_row(self):
        for n in range(1, 9):
            self.assert_told(7, n, ((0,) * n,), False)
            self.assert_told(7, n, ((0,) * n,) * n, False)
            self.assert_told(7, n, ([0] * n,) * n, False)

    def test_other_things_are_no_row(self):
        for n in range(1, 9):
            for thing in (*odd_things(), 0, 1, -1, *LONG_NUMBERS, "0" * n, "0 " * n, {str(k): 0 for k in range(n)}):
                self.assert_told(101, n, thing, n == 1 and thing == (5,))

    def test_a_rest_by_one_prime_may_be_none_by_another(self):
        self.assert_told(5, 2, (4, 6), False)
        self.assert_told(7, 2, (4, 6), True)


class Added(RowTest):
    def test_place_by_place(self):
        for p in SOME_PRIMES:
            for n in range(1, 9):
                for one in some_rows(p, n):
                    for other in some_rows(p, n):
                        told = added(p, one, other)
                        self.assert_row(p, n, told)
                        for at in range(n):
                            self.assertEqual((told[at] - one[at] - other[at]) % p, 0)

    def test_by_hand(self):
        self.assertEqual(added(5, (0, 1, 4), (0, 4, 4)), (0, 0, 3))
        self.assertEqual(added(101, (100,), (100,)), (99,))
        self.assertEqual(added(7, (3, 4), (3, 2)), (6, 6))


class Times(RowTest):
    def test_place_by_place(self):
        for p in SOME_PRIMES:
            for n in range(1, 9):
                for row in some_rows(p, n):
                    for a in some_rests(p):
                        told = times(p, a, row)
                        self.assert_row(p, n, told)
                        for at in range(n):
                            self.assertEqual((told[at] - a * row[at]) % p, 0)

    def test_by_hand(self):
        self.assertEqual(times(5, 0, (1, 2, 4)), (0, 0, 0))
        self.assertEqual(times(5, 1, (1, 2, 4)), (1, 2, 4))
        self.assertEqual(times(5, 4, (0, 1, 4)), (0, 4, 1))
        self.assertEqual(times(11, 3, (4, 5)), (1, 4))


class Worth(RowTest):
    def test_summed_place_by_place(self):
        for p in SOME_PRIMES:
            for n in range(1, 9):
                for row in some_rows(p, n):
                    for world in some_rows(p, n):
                        told = worth(p, row, world)
                        total = 0
                        for at in range(n):
                            total += row[at] * world[at]
                        self.assert_rest(p, told)
                        self.assertEqual((told - total) % p, 0)

    def test_by_hand(self):
        self.assertEqual(worth(7, (1, 2, 3), (3, 2, 1)), 3)
        self.assertEqual(worth(7, (0, 0), (6, 6)), 0)
        self.assertEqual(worth(5, (4,), (4,)), 1)
        self.assertEqual(worth(101, (100,) * 8, (100,) * 8), 8)


class MadeOf(RowTest):
    def test_of_no_rows_noughts(self):
        for p in SOME_PRIMES:
            for n in range(1, 9):
                told = made_of(p, n, (), ())
                self.assert_row(p, n, told)
                self.assertEqual(told, (0,) * n)

    def test_summed_place_by_place(self):
        for p in SOME_PRIMES:
            for n in range(1, 9):
                rows = some_rows(p, n)
                for many in (1, 2, 3, len(rows)):
                    for start in range(len(rows)):
                        taken = tuple((rows + rows)[start:start + many])
                        factors = tuple((0, 1, p - 1, 2, 3)[(start + k) % 5] for k in range(many))
                        self.check(p, n, taken, factors)

    def check(self, p, n, rows, factors):
        before = repr((rows, factors))
        told = made_of(p, n, rows, factors)
        self.assert_row(p, n, told)
        for at in range(n):
            total = 0
            for k in range(len(rows)):
                total += factors[k] * rows[k][at]
            self.assertEqual((told[at] - total) % p, 0)
        self.assertEqual(made_of(p, n, rows, factors), told)
        self.assertEqual(repr((rows, factors)), before)

    def test_by_hand(self):
        self.assertEqual(made_of(5, 3, ((1, 0, 2), (0, 1, 4)), (3, 2)), (3, 2, 4))
        self.assertEqual(made_of(5, 2, ((1, 2), (1, 2)), (1, 4)), (0, 0))
        self.assertEqual(made_of(7, 1, ((6,),), (6,)), (1,))
        self.assertEqual(made_of(7, 2, ((6, 1), (3, 3)), (0, 0)), (0, 0))


if __name__ == "__main__":
    unittest.main()
