"""Points 19 and 20: secrets of a group, and worlds that turn the rests of free rows."""

import itertools
import random
import unittest

from opencalls.errors import NotFree
from opencalls.numbers import alike_at, are_alike
from opencalls.partings import most
from opencalls.secrets import are_secrets, gain, secrets, turns, turns_hold, with_rests
from opencalls.stands import behind
from things import (
    LONG_NUMBERS, Asking, all_rows, bent, bounds_in, combined, common_in, drawn_group, drawn_row, drawn_rows,
    drawn_stand, grouped_stands, has_row, is_plan_in, is_rests, names_of, odd_things, only_tuples, plain_of,
    pooled_stand, rank_of, secrets_in, size_in, worth_at,
)


def are_right(stand, group, thing):
    """Whether a thing is secrets at once, by the words of point 19."""
    p, n, known, hands = stand
    if type(thing) is not tuple or not all(is_rests(p, n, row) for row in thing):
        return False
    if not all(has_row(p, room, row) for name, room in hands if name in group for row in thing):
        return False
    return rank_of(p, known + thing) == len(known) + len(thing)


def behind_all(stand, calls):
    for name, row in calls:
        stand = behind(stand, name, row)
    return stand


def drawn_mixed(rng, p, n, rows, known):
    """As many free sums of the rows, and of what is known, as there are rows."""
    many = len(rows)
    while True:
        mixed = tuple(combined(p, n, rows + known, drawn_row(rng, p, many + len(known))) for _ in rows)
        if rank_of(p, known + mixed) == len(known) + many:
            return mixed


class AreSecrets(Asking):
    def judge(self, stand, group, thing):
        self.assert_judged(are_right(stand, group, thing), are_secrets, stand, group, thing)

    def test_rows_that_each_knows_and_such_that_are_none(self):
        answers = []
        for rng, stand, group in grouped_stands(201, 1):
            calls, rows = gain(stand, group)
            for here in (stand, behind_all(stand, calls[:-1]), behind_all(stand, calls)):
                for thing in self.things(rng, here, group, rows):
                    self.judge(here, group, thing)
                    answers.append(are_secrets(here, group, thing))
        self.assertTrue(min(answers.count(True), answers.count(False)) > 500)

    def things(self, rng, stand, group, rows):
        p, n, known, hands = stand
        noughts = (0,) * n
        yield from ((), rows, rows[::-1], rows + rows[:1], rows + (noughts,), (noughts,), list(rows), rows + known[:1])
        yield known
        for at, row in enumerate(rows):
            times = tuple(3 * rest % p for rest in row)
            yield (row,)
            yield (times,)
            yield (row, times)
            yield rows[:at] + (times,) + rows[at + 1:]
            yield rows[:at] + (list(row),) + rows[at + 1:]
            yield rows[:at] + ((row[0] + p,) + row[1:],) + rows[at + 1:]
            yield rows[:at] + (tuple(bool(rest) if rest < 2 else rest for rest in row),) + rows[at + 1:]
            yield rows[:at] + (combined(p, n, (row,) + known, (1,) * (1 + len(known))),) + rows[at + 1:]
            yield rows + (combined(p, n, rows, drawn_row(rng, p, len(rows))),)
        for name, room in hands:
            yield room
            yield rows + room[:1]
        yield (drawn_row(rng, p, n),)
        yield drawn_rows(rng, p, n, 3)

    def test_bent_ones(self):
        for rng, stand, group in grouped_stands(202, 1, (5,)):
            calls, rows = gain(stand, group)
            things = list(bent(rows))
            for thing in rng.sample(things, min(len(things), 60)):
                self.judge(behind_all(stand, calls), group, thing)

    def test_more_rows_than_numbers(self):
        rows = tuple(all_rows(5, 3))
        whole = ((1, 0, 0), (0, 1, 0), (0, 0, 1))
        stand = (5, 3, (), (("a", whole), ("b", whole)))
        for thing in (rows, rows[1:5], rows[:1] * 300, ((0, 0, 1), (0, 1, 0), (1, 0, 0), (1, 1, 1))):
            self.assert_judged(False, are_secrets, stand, ("a", "b"), thing)
        self.assert_judged(True, are_secrets, stand, ("a", "b"), ((1, 1, 1), (0, 1, 0), (1, 0, 0)))

    def test_things_of_any_kind(self):
        room = ((1, 0), (0, 1))
        stand = (5, 2, ((1, 0),), (("a", room), ("b", room), ("c", ((1, 0),))))
        group = ("a", "b")
        self.assert_judged(True, are_secrets, stand, group, ((0, 1),))
        self.assert_judged(False, are_secrets, stand, ("a", "b", "c"), ((0, 1),))
        self.assert_judged(True, are_secrets, stand, ("a", "b", "c"), ())
        for thing in ([], None, (0, 1), [(0, 1)], ([0, 1],), ((False, 1),), ((0, True),), ((0, 6),), ((5, 1),), "0 1"):
            self.assert_judged(False, are_secrets, stand, group, thing)
        for thing in (*odd_things(), 0, *LONG_NUMBERS):
            for other in (thing, (thing,), ((0, 1), thing), ((0, thing),), ((0, 1, thing),), (thing, thing)):
                self.judge(stand, group, other)


class Secrets(Asking):
    def test_all_rows_gone_through(self):
        rng, seen = random.Random(203), set()
        for _ in range(40):
            for draw in (drawn_stand, pooled_stand):
                p, n = rng.choice(((5, 1), (5, 2), (5, 3), (7, 2), (7, 3), (11, 2)))
                stand = draw(rng, p, n, rng.randrange(2, 6))
                group = drawn_group(rng, stand)
                told = self.ask(secrets, stand, group)
                self.assertIs(type(told), int)
                self.assertEqual(told, secrets_in(stand, group))
                seen.add(told)
        self.assertEqual(seen, {0, 1, 2, 3})

    def test_of_two_hands_by_sizes(self):
        for rng, stand, group in grouped_stands(204, 2):
            pair = tuple(sorted(rng.sample(group, 2)))
            apart = sum(size_in(stand, (name,)) for name in pair)
            self.assertEqual(self.ask(secrets, stand, pair), apart - size_in(stand, pair))

    def test_no_more_than_most_behind_any_calls(self):
        for rng, stand, group in grouped_stands(205, 1):
            self.assertLessEqual(secrets(stand, group), most(stand, group))

    def test_by_hand(self):
        room = ((1, 0), (0, 1))
        stand = (5, 2, ((1, 0),), (("a", room), ("b", room), ("c", ((1, 0),))))
        self.assertEqual(secrets(stand, ("a", "b")), 1)
        self.assertEqual(secrets(stand, ("a", "c")), 0)
        self.assertEqual(secrets(stand, ("a", "b", "c")), 0)


class Gain(Asking):
    def test_a_plan_and_as_many_secrets_as_most_tells(self):
        many = 0
        for rng, stand, group in grouped_stands(206, 2):
            told = self.ask(gain, stand, group)
            self.assertTrue(type(told) is tuple and len(told) == 2 and only_tuples(told))
            calls, rows = told
            self.assertTrue(is_plan_in(stand, group, calls))
            self.assertEqual(len(calls), max(bounds_in(stand, group).values()))
            later = behind_all(stand, calls)
            self.assertTrue(are_right(later, group, rows))
            self.assertEqual(len(rows), self.ask(most, stand, group))
            self.assertEqual(len(rows), self.ask(secrets, later, group))
            self.assertEqual(len(rows) + len(calls), size_in(stand, group))
            many += len(rows)
        self.assertGreater(many, 50)

    def test_free_sums_stay_secrets(self):
        for rng, stand, group in grouped_stands(207, 1):
            calls, rows = gain(stand, group)
            later = behind_all(stand, calls)
            mixed = drawn_mixed(rng, stand[0], stand[1], rows, later[2])
            self.assert_judged(True, are_secrets, later, group, mixed)
            self.assert_judged(True, are_secrets, later, group, mixed[1:])

    def test_one_fewer_behind_the_call_of_one(self):
        for rng, stand, group in grouped_stands(208, 1):
            calls, rows = gain(stand, group)
            later = behind_all(stand, calls)
            mixed = drawn_mixed(rng, stand[0], stand[1], rows, later[2])
            for at, row in enumerate(mixed):
                called = behind(later, rng.choice(group), row)
                self.assertEqual(secrets(called, group), len(mixed) - 1)
                self.assert_judged(True, are_secrets, called, group, mixed[:at] + mixed[at + 1:])
                self.assert_judged(False, are_secrets, called, group, mixed)

    def test_equally_many_worlds_for_any_rests(self):
        rng, many = random.Random(209), 0
        for _ in range(30):
            p, n = rng.choice(((5, 2), (5, 3), (5, 3), (7, 2)))
            stand = pooled_stand(rng, p, n, rng.randrange(2, 5))
            group = drawn_group(rng, stand)
            calls, rows = gain(stand, group)
            known = behind_all(stand, calls)[2]
            world = drawn_row(rng, p, n)
            heard = [worth_at(p, row, world) for row in known]
            alike = [one for one in all_rows(p, n) if [worth_at(p, row, one) for row in known] == heard]
            counted = dict.fromkeys(all_rows(p, len(rows)), 0)
            for one in alike:
                counted[tuple(worth_at(p, row, one) for row in rows)] += 1
            self.assertEqual(set(counted.values()), {p ** (n - len(known) - len(rows))})
            told = sorted(alike_at(p, n, known, world, number) for number in range(p ** (n - len(known))))
            self.assertEqual(told, alike)
            many += len(rows)
        self.assertGreater(many, 10)

    def test_common_rows_of_few_numbers(self):
        rng = random.Random(210)
        for _ in range(20):
            stand = pooled_stand(rng, 5, 3, 3)
            group = names_of(stand)
            calls, rows = gain(stand, group)
            self.assertTrue(set(rows) <= common_in(behind_all(stand, calls), group))


def free_rows(seed, primes=(5, 7, 31, 101), lengths=range(1, 9)):
    """Rooms, with rows that are free of them."""
    rng = random.Random(seed)
    for p in primes:
        for n in lengths:
            for _ in range(4):
                room = plain_of(p, n, drawn_rows(rng, p, n, rng.randrange(n + 1)))
                rows = ()
                for row in drawn_rows(rng, p, n, rng.randrange(n + 2)):
                    if not has_row(p, room + rows, row):
                        rows += (row,)
                yield rng, p, n, room, rows


def are_turns(p, n, room, rows, thing):
    """Whether a thing is worlds as point 20 tells them."""
    if type(thing) is not tuple or len(thing) != len(rows) or not all(is_rests(p, n, world) for world in thing):
        return False
    for at, world in enumerate(thing):
        if any(worth_at(p, row, world) for row in room):
            return False
        if any(worth_at(p, row, world) != (at == other) for other, row in enumerate(rows)):
            return False
    return True


class Turns(Asking):
    def test_worth_1_at_its_own_world(self):
        many = 0
        for rng, p, n, room, rows in free_rows(211):
            told = self.ask(turns, p, n, room, rows)
            self.assertTrue(are_turns(p, n, room, rows, told) and only_tuples(told))
            self.assert_judged(True, turns_hold, p, n, room, rows, told)
            many += len(rows)
        self.assertGreater(many, 150)

    def test_no_rows_at_all(self):
        for p, n, room in ((5, 1, ()), (5, 1, ((1,),)), (101, 3, ((1, 2, 3),))):
            self.assertEqual(self.ask(turns, p, n, room, ()), ())
            self.assert_judged(True, turns_hold, p, n, room, (), ())
            self.assert_judged(False, turns_hold, p, n, room, (), ((0,) * n,))

    def not_free(self, rng, p, n, room, rows):
        """Rows that aren't free of the room."""
        yield rows + ((0,) * n,)
        yield ((0,) * n,) + rows
        for at, row in enumerate(rows):
            yield rows + (row,)
            yield rows[:at] + (row, tuple(2 * rest % p for rest in row)) + rows[at + 1:]
        if room:
            yield rows + (combined(p, n, room, drawn_row(rng, p, len(room))),)
            yield rows + (combined(p, n, rows + room, drawn_row(rng, p, len(rows) + len(room))),)
        yield rows + tuple(tuple(int(at == other) for other in range(n)) for at in range(n)) + rows[:1] + ((1,) * n,)

    def test_not_free(self):
        for rng, p, n, room, rows in free_rows(212):
            for others in self.not_free(rng, p, n, room, rows):
                self.assertRaises(NotFree, turns, p, n, room, others)
                rests, world = drawn_row(rng, p, len(others)), drawn_row(rng, p, n)
                self.assertRaises(NotFree, with_rests, p, n, room, others, world, rests)
                self.assert_judged(False, turns_hold, p, n, room, others, drawn_rows(rng, p, n, len(others)))

    def test_turns_hold(self):
        answers = []
        for rng, p, n, room, rows in free_rows(213, (5, 101)):
            told = turns(p, n, room, rows)
            for thing in self.changed(rng, p, n, room, rows, told):
                self.assert_judged(are_turns(p, n, room, rows, thing), turns_hold, p, n, room, rows, thing)
                answers.append(turns_hold(p, n, room, rows, thing))
        self.assertTrue(min(answers.count(True), answers.count(False)) > 50)

    def changed(self, rng, p, n, room, rows, told):
        """Turns told, exchanged, left out, multiplied, or with a world added to them at which all are worth 0."""
        yield from (told, list(told), told[::-1], told[1:], told + told[:1], told + ((0,) * n,), rows)
        still = [drawn_row(rng, p, n)]
        if p ** n < 20000:
            still += [one for one in all_rows(p, n) if not any(worth_at(p, row, one) for row in room + rows)][:9]
        for at, world in enumerate(told):
            for other in still:
                moved = tuple((a + b) % p for a, b in zip(world, other))
                yield told[:at] + (moved,) + told[at + 1:]
            yield told[:at] + (tuple(2 * rest % p for rest in world),) + told[at + 1:]
            yield told[:at] + (list(world),) + told[at + 1:]
            yield told[:at] + (tuple(rest + p for rest in world),) + told[at + 1:]
            yield told[:at] + told[at + 1:]

    def test_bent_turns_and_things_of_any_kind(self):
        room, rows = ((1, 0, 0),), ((0, 1, 0), (3, 0, 2))
        told = turns(5, 3, room, rows)
        for thing in bent(told):
            self.assert_judged(are_turns(5, 3, room, rows, thing), turns_hold, 5, 3, room, rows, thing)
        for thing in (*odd_things(), 0, *LONG_NUMBERS):
            for other in (thing, (thing, thing), (told[0], thing), (thing, told[1]), told + (thing,), [told[0], thing]):
                self.assert_judged(are_turns(5, 3, room, rows, other), turns_hold, 5, 3, room, rows, other)

    def test_by_hand(self):
        self.assertEqual(turns(5, 1, (), ((2,),)), ((3,),))
        self.assertEqual(turns(5, 2, ((1, 0),), ((3, 2),)), ((0, 3),))
        self.assert_judged(True, turns_hold, 5, 2, ((1, 0),), ((3, 2),), ((0, 3),))
        self.assert_judged(False, turns_hold, 5, 2, ((1, 0),), ((3, 2),), ((1, 0),))
        self.assert_judged(False, turns_hold, 5, 2, (), ((1, 0),), ((True, 0),))


class WithRests(Asking):
    def test_alike_for_the_room_and_worth_the_rests(self):
        for rng, p, n, room, rows in free_rows(214):
            for _ in range(3):
                world, rests = drawn_row(rng, p, n), drawn_row(rng, p, len(rows))
                told = self.ask(with_rests, p, n, room, rows, world, rests)
                self.assertTrue(is_rests(p, n, told))
                self.assertTrue(all(worth_at(p, row, told) == worth_at(p, row, world) for row in room))
                self.assertEqual(tuple(worth_at(p, row, told) for row in rows), rests)
                self.assertIs(are_alike(p, room, told, world), True)

    def test_every_rests_by_5(self):
        room, rows = ((1, 0, 4),), ((0, 1, 0), (2, 2, 2))
        for world in ((0, 0, 0), (1, 2, 3)):
            for rests in itertools.product(range(5), repeat=2):
                told = with_rests(5, 3, room, rows, world, rests)
                self.assertEqual(tuple(worth_at(5, row, told) for row in rows), rests)
                self.assertEqual(worth_at(5, room[0], told), worth_at(5, room[0], world))


if __name__ == "__main__":
    unittest.main()
