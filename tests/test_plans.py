"""Point 18: plans, with and without an order of callers, and calls that leave none wanting."""

import itertools
import random
import unittest

from opencalls.errors import NoOrder
from opencalls.plans import plan, plan_holds, safe_call
from opencalls.shares import shares
from opencalls.stands import behind
from things import (
    LONG_NUMBERS, Asking, are_at_one, bent, bounds_in, called_in, drawn_known, drawn_row, first_short, grouped_stands,
    has_row, is_plan_in, is_rests, names_of, odd_things, only_tuples, quiet_stand, wants_in,
)

SIX = (
    ("a", ((1, 0), (0, 1))), ("b", ((1, 0),)), ("c", ((1, 1),)), ("d", ((1, 2),)), ("e", ((1, 3),)), ("f", ((1, 4),)),
)


def callers_of(group, numbers):
    return tuple(name for name, number in zip(group, numbers) for _ in range(number))


class Plan(Asking):
    def test_fewest_calls_that_bring_the_group_at_one(self):
        for rng, stand, group in grouped_stands(181, 3):
            told = self.ask(plan, stand, group)
            self.assertTrue(only_tuples(told) and is_plan_in(stand, group, told))
            self.assertEqual(len(told), max(bounds_in(stand, group).values()))
            self.assert_judged(True, plan_holds, stand, group, told)
            self.assertEqual(self.ask(plan, stand, group, order=None), told)

    def test_a_group_at_one(self):
        many = 0
        for rng, stand, group in grouped_stands(182, 2):
            for name, row in plan(stand, group):
                stand = behind(stand, name, row)
            self.assertEqual(self.ask(plan, stand, group), ())
            self.assertEqual(self.ask(plan, stand, group, order=()), ())
            self.assert_judged(True, plan_holds, stand, group, ())
            for order in ((group[0],), [], "", {}, ((),), False, 0):
                self.assertRaises(NoOrder, plan, stand, group, order=order)
            many += 1
        self.assertGreater(many, 50)

    def test_six_hands_by_5(self):
        for last in (SIX, SIX[:5] + (("g", ((0, 1),)),), SIX[:1] + SIX[2:] + (("g", ((0, 1),)),)):
            stand = (5, 2, (), last)
            told = self.ask(plan, stand, names_of(stand))
            self.assertEqual([name for name, row in told], ["a"])
            self.assertTrue(is_plan_in(stand, names_of(stand), told))

    def test_order_is_handed_in_by_name(self):
        self.assertRaises(TypeError, plan, (5, 2, (), SIX), ("a", "b"), None)


class Orders(Asking):
    def check(self, stand, group, order):
        told = self.ask(plan, stand, group, order=order)
        self.assertEqual(tuple(name for name, row in told), order)
        self.assertTrue(only_tuples(told) and is_plan_in(stand, group, told))
        self.assert_judged(True, plan_holds, stand, group, told)

    def test_all_orders_of_small_groups(self):
        rng, many = random.Random(183), 0
        for _ in range(40):
            p, n = rng.choice((5, 5, 7, 101)), rng.randrange(2, 6)
            stand = quiet_stand(rng, p, n, rng.randrange(2, 5))
            group = names_of(stand)
            callers = callers_of(group, shares(stand, group))
            if len(callers) <= 5:
                for order in sorted(set(itertools.permutations(callers))):
                    self.check(stand, group, order)
                    many += 1
        self.assertGreater(many, 300)

    def test_drawn_orders_of_others(self):
        for rng, stand, group in grouped_stands(184, 1):
            callers = list(callers_of(group, shares(stand, group)))
            for _ in range(3):
                rng.shuffle(callers)
                self.check(stand, group, tuple(callers))

    def judge(self, stand, group, callers, thing):
        """The order is taken where it is a tuple of just these callers, and refused else."""
        if type(thing) is tuple and all(type(name) is str for name in thing) and sorted(thing) == sorted(callers):
            self.check(stand, group, thing)
        elif thing is not None:
            before = repr((stand, group, thing))
            for _ in range(2):
                self.assertRaises(NoOrder, plan, stand, group, order=thing)
            self.assertEqual(repr((stand, group, thing)), before)

    def test_no_order(self):
        for rng, stand, group in grouped_stands(185, 1, (5, 101)):
            numbers = shares(stand, group)
            callers = callers_of(group, numbers)
            others = (
                callers + group[:1], callers[1:], list(callers), callers + (None,), ("zoe",) + callers[1:],
                (group[0].upper(),) + callers[1:], (callers,), str(callers), one_moved(group, numbers), callers[::-1],
            )
            for thing in (*others, *odd_things(), 0, *LONG_NUMBERS):
                self.judge(stand, group, callers, thing)
                self.judge(stand, group, callers, callers[:-1] + (thing,))

    def test_other_shares_that_would_do(self):
        # Each of the two could call; the order is to have the greater shares, so only the first one may.
        stand = (5, 3, (), (("a", ((1, 0, 0), (0, 1, 0))), ("b", ((1, 0, 0), (0, 1, 0))), ("c", ((1, 0, 0),))))
        group = ("a", "b", "c")
        self.assertEqual(shares(stand, group), (1, 0, 0))
        self.check(stand, group, ("a",))
        self.assertRaises(NoOrder, plan, stand, group, order=("b",))


def one_moved(group, numbers):
    """Callers by numbers in which the first hand calls once more and another one once less."""
    moved = [numbers[0] + 1, *numbers[1:]]
    for at in range(1, len(moved)):
        if moved[at]:
            moved[at] -= 1
            break
    return callers_of(group, moved)


class PlanHolds(Asking):
    def judge(self, stand, group, thing):
        self.assert_judged(is_plan_in(stand, group, thing), plan_holds, stand, group, thing)

    def test_cut_led_on_and_exchanged(self):
        answers = []
        for rng, stand, group in grouped_stands(186, 1):
            calls = plan(stand, group)
            for thing in self.changed(rng, stand, group, calls):
                self.judge(stand, group, thing)
                answers.append(plan_holds(stand, group, thing))
        self.assertTrue(min(answers.count(True), answers.count(False)) > 200)

    def changed(self, rng, stand, group, calls):
        p, n = stand[:2]
        for at in range(len(calls)):
            yield calls[:at] + calls[at + 1:]
            yield calls[:at] + calls[at:][::-1]
            yield calls[:at] + ((rng.choice(group), calls[at][1]),) + calls[at + 1:]
            yield calls[:at] + ((calls[at][0], drawn_row(rng, p, n)),) + calls[at + 1:]
            yield calls[:at] + (calls[at],) * 2 + calls[at + 1:]
            yield calls[:at] + ((rng.choice(names_of(stand)), calls[at][1]),) + calls[at + 1:]
        for name in (*names_of(stand), "zoe"):
            yield calls + ((name, (0,) * n),)
            yield calls + ((name, drawn_row(rng, p, n)),)
            yield ((name, (0,) * n),) + calls
            yield calls + ((name, calls[0][1]),) if calls else ((name, (1,) * n),)
        yield calls[::-1]
        yield calls + calls

    def test_drawn_calls(self):
        answers = []
        for rng, stand, group in grouped_stands(187, 2):
            calls, here = [], stand
            for _ in range(10):
                name = rng.choice(group)
                calls.append((name, drawn_known(rng, here, name)))
                here = called_in(here, calls[-1][1])
            self.judge(stand, group, tuple(calls))
            answers.append(are_at_one(here, group))
        self.assertTrue(min(answers.count(True), answers.count(False)) > 10)

    def test_a_long_plan(self):
        stand = (5, 2, (), SIX)
        calls = (("a", (0, 1)),) + (("b", (3, 3)),) * 120
        self.assert_judged(True, plan_holds, stand, names_of(stand), calls)
        self.assert_judged(False, plan_holds, stand, names_of(stand), (("b", (3, 3)),) + calls)

    def test_bent_ones(self):
        for rng, stand, group in grouped_stands(188, 1, (5,)):
            things = list(bent(plan(stand, group)))
            for thing in rng.sample(things, min(len(things), 80)):
                self.judge(stand, group, thing)

    def test_things_of_any_kind(self):
        stand = (5, 2, (), SIX[:2] + (("c", ((1, 0), (0, 1))),))
        group = ("a", "b")
        call = ("a", (0, 1))
        self.assert_judged(True, plan_holds, stand, group, (call,))
        for thing in (
            [call], call, (list(call),), (("a", [0, 1]),), (("a", (0, True)),), (("c", (0, 1)),), (("a", (0, 6)),),
        ):
            self.assert_judged(False, plan_holds, stand, group, thing)
        for thing in (*odd_things(), 0, *LONG_NUMBERS, "a 0 1"):
            for other in (
                thing, (thing,), (call, thing), (thing, call), (("a", thing),), ((thing, (0, 1)),), (call + (thing,),),
            ):
                self.judge(stand, group, other)
                self.judge(stand, ("a", "c"), other)


class SafeCall(Asking):
    def step(self, stand, group, numbers, hand):
        """The stand and the numbers behind the call, by the test's own reckoning."""
        row = self.ask(safe_call, stand, group, numbers, hand)
        self.assertTrue(is_rests(stand[0], stand[1], row))
        self.assertTrue(has_row(stand[0], dict(stand[3])[hand], row))
        later = called_in(stand, row)
        left = tuple(number - (name == hand) for name, number in zip(group, numbers))
        self.assertIsNone(first_short(group, wants_in(later, group), left))
        return later, left

    def lead(self, rng, stand, group, numbers):
        """Calls of any hands, till all numbers are 0."""
        while sum(numbers):
            hand = rng.choice([name for name, number in zip(group, numbers) if number])
            stand, numbers = self.step(stand, group, numbers, hand)
        self.assertTrue(are_at_one(stand, group))

    def just_enough(self, rng, stand, group):
        """Drawn numbers that leave none wanting, and of which none can be less."""
        wants = wants_in(stand, group)
        numbers = [rng.randrange(8, 10)] * len(group)
        hands = list(range(len(group)))
        rng.shuffle(hands)
        for at in hands:
            while numbers[at]:
                numbers[at] -= 1
                if first_short(group, wants, numbers) is not None:
                    numbers[at] += 1
                    break
        return tuple(numbers)

    def test_shares(self):
        for rng, stand, group in grouped_stands(189, 1):
            self.lead(rng, stand, group, shares(stand, group))

    def test_just_enough(self):
        for rng, stand, group in grouped_stands(190, 1):
            self.lead(rng, stand, group, self.just_enough(rng, stand, group))

    def test_more_than_enough(self):
        for rng, stand, group in grouped_stands(191, 1):
            numbers = self.just_enough(rng, stand, group)
            self.lead(rng, stand, group, tuple(number + rng.choice((0, 0, 1, 2)) for number in numbers))

    def test_every_hand_at_the_first_step(self):
        for rng, stand, group in grouped_stands(192, 1):
            for numbers in (shares(stand, group), self.just_enough(rng, stand, group), (100,) * len(group)):
                for hand, number in zip(group, numbers):
                    if number:
                        self.step(stand, group, numbers, hand)

    def test_numbers_up_to_100(self):
        stand = (5, 2, (), SIX)
        group = names_of(stand)
        for numbers in ((100, 0, 0, 0, 0, 0), (1, 100, 0, 0, 0, 100), (0, 1, 1, 0, 0, 0), (0, 100, 100, 100, 100, 100)):
            for hand, number in zip(group, numbers):
                if number:
                    self.step(stand, group, numbers, hand)

    def test_six_hands_by_5(self):
        lines = ((1, 0), (1, 1), (1, 2), (1, 3), (1, 4), (0, 1))
        for left_out in lines:
            others = tuple((name, (row,)) for name, row in zip("bcdef", [row for row in lines if row != left_out]))
            for first in ("a", "g"):
                hands = tuple(sorted(((first, ((1, 0), (0, 1))),) + others))
                stand = (5, 2, (), hands)
                group = names_of(stand)
                numbers = tuple(int(name == first) for name in group)
                later, left = self.step(stand, group, numbers, first)
                self.assertTrue(are_at_one(later, group))
                self.assertEqual(later[2], (left_out,))

    def test_six_hands_by_5_in_greater_rooms(self):
        rng = random.Random(193)
        for _ in range(15):
            n = rng.randrange(2, 6)
            rows = [drawn_row(rng, 5, n) for _ in range(2)]
            known = drawn_row(rng, 5, n)
            hands = [("a", (*rows, known))]
            for name in "bcdef":
                one, other = rng.randrange(5), rng.randrange(5)
                hands.append((name, (tuple((one * x + other * y) % 5 for x, y in zip(*rows)), known)))
            stand = called_in((5, n, (), tuple(hands)), known)
            self.lead(rng, stand, names_of(stand), shares(stand, names_of(stand)))


if __name__ == "__main__":
    unittest.main()
