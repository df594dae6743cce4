"""Point 8: papers that tell why a row is made of some rows, or why it isn't."""

import random
import unittest

from opencalls.papers import makes, makes_hold, needed, parted, parted_hold
from opencalls.rooms import room_of
from things import (
    LONG_NUMBERS, Asking, all_rows, bent, combined, drawn_row, drawn_rows, has_row, is_rests, odd_things, rank_of,
    span_of, worth_at,
)

SOME_PRIMES = (5, 7, 13, 53, 101)


def are_factors(p, n, rows, row, thing):
    return is_rests(p, len(rows), thing) and combined(p, n, rows, thing) == row


def are_worlds(p, n, rows, row, thing):
    if type(thing) is not tuple or len(thing) != 2 or not all(is_rests(p, n, world) for world in thing):
        return False
    one, other = thing
    same = all(worth_at(p, heard, one) == worth_at(p, heard, other) for heard in rows)
    return same and worth_at(p, row, one) != worth_at(p, row, other)


def some_cases(seed, primes=SOME_PRIMES, lengths=range(1, 9)):
    """Rows, and a row: made of them, drawn, one of them, or noughts."""
    rng = random.Random(seed)
    for p in primes:
        for n in lengths:
            for many in (0, 1, 2, 3, 5, 8, 12):
                rows = drawn_rows(rng, p, n, many)
                yield p, n, rows, (0,) * n
                yield p, n, rows, drawn_row(rng, p, n)
                yield p, n, rows, combined(p, n, rows, drawn_row(rng, p, many))
                if rows:
                    yield p, n, rows, rng.choice(rows)


class JustOne(Asking):
    def check(self, p, n, rows, row):
        factors, worlds = self.ask(makes, p, n, rows, row), self.ask(parted, p, n, rows, row)
        if has_row(p, rows, row):
            self.assertIsNone(worlds)
            self.assertTrue(are_factors(p, n, rows, row, factors), (p, n, rows, row, factors))
            self.assert_judged(True, makes_hold, p, n, rows, row, factors)
            self.assert_judged(False, parted_hold, p, n, rows, row, worlds)
        else:
            self.assertIsNone(factors)
            self.assertTrue(are_worlds(p, n, rows, row, worlds), (p, n, rows, row, worlds))
            self.assert_judged(True, parted_hold, p, n, rows, row, worlds)
            self.assert_judged(False, makes_hold, p, n, rows, row, factors)

    def test_drawn_ones(self):
        for case in some_cases(81):
            self.check(*case)

    def test_every_row_by_5_and_7(self):
        rng = random.Random(82)
        for p, n in ((5, 1), (5, 2), (5, 3), (7, 2)):
            for many in range(4):
                rows = drawn_rows(rng, p, n, many)
                made = span_of(p, n, rows)
                for row in all_rows(p, n):
                    self.check(p, n, rows, row)
                    self.assertEqual(makes(p, n, rows, row) is not None, row in made)

    def test_no_rows_at_all(self):
        for p in SOME_PRIMES:
            for n in range(1, 9):
                self.assertEqual(makes(p, n, (), (0,) * n), ())
                self.assertIsNone(parted(p, n, (), (0,) * n))
                self.assertIsNone(makes(p, n, (), (1,) * n))
                self.check(p, n, (), (1,) * n)

    def test_rows_heard_over_and_over(self):
        rng = random.Random(83)
        for p in (5, 101):
            for n in (1, 4, 8):
                rows = drawn_rows(rng, p, n, 70)
                for row in (drawn_row(rng, p, n), combined(p, n, rows, drawn_row(rng, p, 70))):
                    self.check(p, n, rows, row)
                self.check(p, n, rows[:1] * 70, drawn_row(rng, p, n))

    def test_by_hand(self):
        self.assertEqual(makes(5, 2, ((1, 1), (0, 1)), (2, 0)), (2, 3))
        self.assertEqual(makes(7, 3, ((0, 0, 0), (0, 2, 0)), (0, 1, 0)), (0, 4))
        self.assertIsNone(makes(5, 2, ((1, 1),), (1, 2)))
        self.assertIsNone(parted(5, 2, ((1, 1),), (3, 3)))


class Judged(Asking):
    def judge(self, p, n, rows, row, thing):
        self.assert_judged(are_factors(p, n, rows, row, thing), makes_hold, p, n, rows, row, thing)
        self.assert_judged(are_worlds(p, n, rows, row, thing), parted_hold, p, n, rows, row, thing)

    def test_bent_papers(self):
        for p, n, rows, row in some_cases(84, (5, 13, 101), (1, 2, 4, 8)):
            for paper in (makes(p, n, rows, row), parted(p, n, rows, row)):
                if paper is not None:
                    for thing in bent(paper):
                        self.judge(p, n, rows, row, thing)

    def test_every_pair_of_factors_and_every_pair_of_worlds_by_5(self):
        rows, row = ((1, 2), (2, 4)), (3, 1)
        for thing in all_rows(5, 2):
            self.judge(5, 2, rows, row, thing)
        for one in all_rows(5, 2):
            for other in all_rows(5, 2):
                self.judge(5, 2, rows, row, (one, other))
                self.judge(5, 2, rows, (0, 1), (one, other))

    def test_another_row_s_papers(self):
        rng = random.Random(85)
        for p, n, rows, row in some_cases(86, (5, 13), (1, 2, 5)):
            other = drawn_row(rng, p, n)
            for paper in (makes(p, n, rows, row), parted(p, n, rows, row)):
                self.judge(p, n, rows, other, paper)
                self.judge(p, n, rows[1:], row, paper)
                self.judge(p, n, rows + (other,), row, paper)

    def test_things_of_any_kind(self):
        for rows in ((), ((1, 2),), ((1, 2), (3, 1))):
            for row in ((0, 0), (1, 2), (0, 1)):
                for thing in (*odd_things(), 0, *LONG_NUMBERS, "0 0", (rows, row)):
                    self.judge(5, 2, rows, row, thing)
                    self.judge(5, 2, rows, row, (thing, thing))
                    self.judge(5, 2, rows, row, ((0, 0), thing))
                    self.judge(5, 2, rows, row, [thing, (0, 1)])

    def test_lists_and_truths(self):
        self.assert_judged(True, makes_hold, 5, 2, ((1, 2),), (1, 2), (1,))
        for thing in ([1], (True,), (1, 0), (6,), (-4,), ("1",), ((1,),)):
            self.assert_judged(False, makes_hold, 5, 2, ((1, 2),), (1, 2), thing)
        self.assert_judged(False, makes_hold, 5, 2, ((1, 2),), (0, 0), (False,))
        self.assert_judged(True, parted_hold, 5, 2, ((1, 0),), (0, 1), ((0, 0), (0, 1)))
        for thing in (
            [(0, 0), (0, 1)], ([0, 0], (0, 1)), ((0, 0), (0, True)), ((0, 0), (0, 6)), ((0, 0), (0, 1), (0, 1)),
        ):
            self.assert_judged(False, parted_hold, 5, 2, ((1, 0),), (0, 1), thing)


class Needed(Asking):
    def test_against_sizes_of_those_ahead(self):
        for p, n, rows, row in some_cases(87):
            rows = rows + (row,) + rows
            told = self.ask(needed, p, n, rows)
            self.assertIs(type(told), tuple)
            wanted = [k for k in range(len(rows)) if rank_of(p, rows[:k + 1]) > rank_of(p, rows[:k])]
            self.assertEqual(list(told), wanted)
            self.assertEqual(len(told), len(room_of(p, n, rows)))
            self.assertEqual(room_of(p, n, tuple(rows[k] for k in told)), room_of(p, n, rows))

    def test_by_hand(self):
        self.assertEqual(needed(5, 2, ()), ())
        self.assertEqual(needed(5, 2, ((0, 0), (0, 0))), ())
        self.assertEqual(needed(5, 2, ((0, 0), (1, 2), (2, 4), (0, 1), (1, 0))), (1, 3))


if __name__ == "__main__":
    unittest.main()
