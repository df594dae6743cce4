"""Point 17: what is wanted of the parts of a group, and shares that leave none wanting."""

import itertools
import random
import unittest

from opencalls.partings import tight
from opencalls.plans import plan
from opencalls.shares import shares, shares_hold, want, wanting
from things import (
    LONG_NUMBERS, Asking, bent, bounds_in, drawn_stand, first_short, grouped_stands, names_of, odd_things,
    only_tuples, parts_in, quiet_stand, wants_in,
)


def all_numbers(many, total):
    """All tuples of so many numbers that come to the total, the greatest first."""
    return [numbers for numbers in itertools.product(range(total, -1, -1), repeat=many) if sum(numbers) == total]


class Want(Asking):
    def test_every_part_but_the_whole_group(self):
        for rng, stand, group in grouped_stands(171, 1):
            for part, wanted in wants_in(stand, group).items():
                told = self.ask(want, stand, group, part)
                self.assertIs(type(told), int)
                self.assertEqual(told, wanted)

    def test_by_hand(self):
        stand = (5, 2, (), (("a", ((1, 0),)), ("b", ((0, 1),)), ("c", ((1, 0), (0, 1)))))
        self.assertEqual(want(stand, ("a", "b"), ("a",)), 1)
        self.assertEqual(want(stand, ("a", "b", "c"), ("a",)), 0)
        self.assertEqual(want(stand, ("a", "b", "c"), ("a", "c")), 1)
        self.assertEqual(want(stand, ("a", "b", "c"), ("a", "b")), 0)
        self.assertEqual(want((5, 1, ((1,),), (("a", ((1,),)), ("b", ((1,),)))), ("a", "b"), ("a",)), 0)


class Wanting(Asking):
    def numbers(self, rng, group):
        """Numbers of every kind that may be handed in."""
        many = len(group)
        yield (0,) * many
        yield (100,) * many
        for most in (2, 3, 4, 9, 101):
            yield tuple(rng.randrange(most) for _ in range(many))
        for at in range(many):
            yield tuple(100 * (at == other) for other in range(many))
            yield tuple(100 * (at != other) for other in range(many))

    def test_the_first_part_in_the_order_of_names(self):
        told = set()
        for rng, stand, group in grouped_stands(172, 1):
            wants = wants_in(stand, group)
            for numbers in self.numbers(rng, group):
                short = self.ask(wanting, stand, group, numbers)
                self.assertEqual(short, first_short(group, wants, numbers))
                told.add(None if short is None else (parts_in(group).index(short), len(group)))
        self.assertGreater(len(told), 15)

    def test_names_that_are_beginnings_of_others(self):
        rng = random.Random(173)
        for _ in range(30):
            p, n, known, hands = quiet_stand(rng, 5, 4, 5)
            group = ("a", "aa", "ab", "abc", "b")
            stand = (p, n, known, tuple((name, room) for name, (other, room) in zip(group, hands)))
            for numbers in self.numbers(rng, group):
                self.assertEqual(wanting(stand, group, numbers), first_short(group, wants_in(stand, group), numbers))

    def test_by_hand(self):
        stand = (5, 3, (), (("a", ((1, 0, 0),)), ("b", ((0, 1, 0),)), ("c", ((1, 0, 0), (0, 1, 0)))))
        group = ("a", "b", "c")
        self.assertEqual(wanting(stand, group, (0, 0, 0)), ("a", "c"))
        self.assertEqual(wanting(stand, group, (1, 0, 0)), ("b", "c"))
        self.assertEqual(wanting(stand, group, (0, 1, 0)), ("a", "c"))
        self.assertIsNone(wanting(stand, group, (1, 1, 0)))
        self.assertIsNone(wanting(stand, group, (0, 0, 1)))


class Shares(Asking):
    def test_all_tuples_gone_through(self):
        for rng, stand, group in grouped_stands(174, 2):
            total = max(bounds_in(stand, group).values())
            wants = wants_in(stand, group)
            told = self.ask(shares, stand, group)
            self.assertTrue(only_tuples(told) and len(told) == len(group) and sum(told) == total)
            self.assertIsNone(first_short(group, wants, told))
            self.assertIsNone(self.ask(wanting, stand, group, told))
            self.assert_judged(True, shares_hold, stand, group, told)
            if len(group) < 6 or total < 5:
                tuples = all_numbers(len(group), total)
                self.assertEqual(told, max(one for one in tuples if first_short(group, wants, one) is None))

    def test_none_with_fewer_leave_none_wanting(self):
        rng, many = random.Random(175), 0
        for _ in range(40):
            stand = quiet_stand(rng, 5, rng.randrange(2, 6), rng.randrange(2, 6))
            group = names_of(stand)
            wants, total = wants_in(stand, group), sum(shares(stand, group))
            for numbers in all_numbers(len(group), total - 1) if total else ():
                self.assertIsNotNone(first_short(group, wants, numbers))
                many += 1
        self.assertGreater(many, 300)

    def test_eight_numbers_and_six_hands(self):
        rng = random.Random(176)
        for _ in range(4):
            stand = quiet_stand(rng, 7, 8, 6)
            group = names_of(stand)
            wants, total = wants_in(stand, group), tight(stand, group)[0]
            good = [numbers for numbers in all_numbers(6, total) if first_short(group, wants, numbers) is None]
            self.assertEqual(shares(stand, group), good[0])

    def test_by_hand(self):
        rows = ((1, 0, 0), (0, 1, 0), (0, 0, 1))
        stand = (5, 3, (), (("a", rows[:2]), ("b", rows[1:]), ("c", rows[::2])))
        self.assertEqual(shares(stand, ("a", "b", "c")), (1, 1, 0))
        self.assertEqual(shares(stand, ("a", "b")), (1, 1))
        stand = (5, 3, (), (("a", rows[:1]), ("b", rows), ("c", rows[:1])))
        self.assertEqual(shares(stand, ("a", "b", "c")), (0, 2, 0))
        self.assertEqual(shares(stand, ("a", "c")), (0, 0))

    def test_whatever_was_asked_between(self):
        rng = random.Random(177)
        stands = [drawn_stand(rng, rng.choice((5, 7)), rng.randrange(1, 9), 4) for _ in range(8)]
        told = [shares(stand, names_of(stand)) for stand in stands]
        for stand in stands:
            plan(stand, names_of(stand))
        self.assertEqual([shares(stand, names_of(stand)) for stand in stands[::-1]][::-1], told)


def leave_none(stand, group, thing):
    """Whether a thing is numbers that leave none wanting, by the words of point 17."""
    if type(thing) is not tuple or len(thing) != len(group):
        return False
    if not all(type(number) is int and number >= 0 for number in thing):
        return False
    return first_short(group, wants_in(stand, group), thing) is None


class SharesHold(Asking):
    def judge(self, stand, group, thing):
        self.assert_judged(leave_none(stand, group, thing), shares_hold, stand, group, thing)

    def test_one_more_or_less(self):
        for rng, stand, group in grouped_stands(178, 1):
            numbers = shares(stand, group)
            for at in range(len(group)):
                for number in (numbers[at] + 1, numbers[at] - 1, 0, 100, 101, *LONG_NUMBERS, bool(numbers[at])):
                    self.judge(stand, group, numbers[:at] + (number,) + numbers[at + 1:])
                for other in range(len(group)):
                    moved = list(numbers)
                    moved[at], moved[other] = moved[at] - 1, moved[other] + 1
                    self.judge(stand, group, tuple(moved))

    def test_bent_ones(self):
        for rng, stand, group in grouped_stands(179, 1, (5, 101)):
            for thing in bent(shares(stand, group)):
                self.judge(stand, group, thing)

    def test_beyond_100(self):
        for rng, stand, group in grouped_stands(180, 1, (5, 101)):
            for number in (101, 1000, *LONG_NUMBERS[:2]):
                self.assert_judged(True, shares_hold, stand, group, (number,) * len(group))
            self.assert_judged(False, shares_hold, stand, group, (10 ** 29,) * (len(group) - 1) + (-1,))

    def test_truths_lists_and_things_of_any_kind(self):
        stand = (5, 2, (), (("a", ((1, 0),)), ("b", ((0, 1),)), ("c", ((1, 0),))))
        self.assert_judged(True, shares_hold, stand, ("a", "b"), (1, 1))
        for thing in ((True, 1), (1, True), [1, 1], (1,), (1, 1, 0), (1, 0), (1, "1"), (1, None), {"a": 1, "b": 1}):
            self.assert_judged(False, shares_hold, stand, ("a", "b"), thing)
        self.assert_judged(True, shares_hold, stand, ("a", "c"), (0, 0))
        self.assert_judged(False, shares_hold, stand, ("a", "c"), (False, 0))
        for thing in (*odd_things(), 1, *LONG_NUMBERS, "1 1"):
            for other in (thing, (thing, thing), (1, thing), (thing, 1), (1, 1, thing), [1, thing]):
                self.judge(stand, ("a", "b"), other)
                self.judge(stand, ("a", "c"), other)


if __name__ == "__main__":
    unittest.main()
