"""Points 15 and 16: partings of a group, and how few calls bring it at one by them."""

import random
import unittest

from opencalls.partings import bound, fewest, is_parting, measure, most, partings, tight, tight_holds
from opencalls.stands import behind
from things import (
    LONG_NUMBERS, Asking, all_calls, bent, bounds_in, drawn_group, drawn_known, drawn_stand, drawn_stands,
    grouped_stands, groups_in, names_of, odd_things, only_tuples, partings_in, pooled_stand, quiet_stand, size_in,
    sizes_in,
)

GROUPS = (
    ("ann", "bob"), ("a", "ab"), ("a", "ab", "abc"), ("ann", "bob", "cy"), ("a", "aa", "ab", "b"),
    ("a", "b", "c", "d", "e"), ("a", "aa", "aaa", "ab", "b"), ("a", "b", "c", "d", "e", "f"),
    ("a", "aa", "ab", "abcdefgh", "b", "ba"),
)


def is_right(group, thing):
    """Whether a thing is a parting, by the words of point 15."""
    if type(thing) is not tuple or len(thing) < 2:
        return False
    for part in thing:
        if type(part) is not tuple or not part or not all(type(name) is str and name in group for name in part):
            return False
        if sorted(set(part)) != list(part):
            return False
    return sorted(set(thing)) == list(thing) and sorted(sum(thing, ())) == list(group)


class Partings(Asking):
    def test_all_of_them_rising_each_once(self):
        for group in GROUPS:
            told = self.ask(partings, group)
            self.assertTrue(only_tuples(told))
            self.assertEqual(len(told), {2: 1, 3: 4, 4: 14, 5: 51, 6: 202}[len(group)])
            self.assertEqual(sorted(set(told)), list(told))
            self.assertEqual(told, partings_in(group))
            self.assertTrue(all(is_right(group, parting) for parting in told))

    def test_by_hand(self):
        self.assertEqual(partings(("ann", "bob")), ((("ann",), ("bob",)),))
        self.assertEqual(partings(("a", "ab", "b")), (
            (("a",), ("ab",), ("b",)), (("a",), ("ab", "b")), (("a", "ab"), ("b",)), (("a", "b"), ("ab",)),
        ))


class IsParting(Asking):
    def judge(self, group, thing):
        self.assert_judged(is_right(group, thing), is_parting, group, thing)

    def test_those_told(self):
        for group in GROUPS:
            for parting in partings(group):
                self.assert_judged(True, is_parting, group, parting)

    def test_bent_ones(self):
        rng = random.Random(151)
        for group in GROUPS:
            all_of_them = partings(group)
            for parting in rng.sample(all_of_them, min(len(all_of_them), 12)):
                for thing in bent(parting):
                    self.judge(group, thing)
                self.check_turned(group, parting)

    def check_turned(self, group, parting):
        for at, part in enumerate(parting):
            ahead, later = parting[:at], parting[at + 1:]
            self.assert_judged(len(part) == 1, is_parting, group, ahead + (part[::-1],) + later)
            self.assert_judged(False, is_parting, group, ahead + (part + part[:1],) + later)
            self.assert_judged(False, is_parting, group, ahead + (part + ("zoe",),) + later)
            self.assert_judged(False, is_parting, group, ahead + (part, ()) + later)
            self.assert_judged(False, is_parting, group, ahead + (list(part),) + later)
            self.assert_judged(False, is_parting, group, ahead + ({name: 1 for name in part},) + later)
            self.assert_judged(False, is_parting, group, ahead + ("".join(part),) + later)
            self.assert_judged(False, is_parting, group, ahead + later)
            self.judge(group, ahead + (part[1:],) + later)
            if later:
                self.judge(group, ahead + (tuple(sorted(part + later[0])),) + later[1:])
        self.assert_judged(False, is_parting, group, parting[::-1])
        self.assert_judged(False, is_parting, group, parting + (("zoe",),))

    def test_other_groups(self):
        for group in GROUPS:
            for other in (group[1:], group[:-1], ("zoe",) + group[1:], group + ("z",), ("ann", "bob")):
                if len(other) > 1:
                    for parting in partings_in(tuple(sorted(other)))[:20]:
                        self.judge(group, parting)

    def test_the_group_as_one_part(self):
        for group in GROUPS:
            for thing in ((group,), group, ((),), (group, ()), ((), group), (group, group), (group[:1],) * 2, ()):
                self.assert_judged(False, is_parting, group, thing)

    def test_things_of_any_kind(self):
        for group in (("ann", "bob"), ("a", "b", "c")):
            first = (group[:1], group[1:])
            self.assert_judged(True, is_parting, group, first)
            for thing in (*odd_things(), 0, *LONG_NUMBERS, str(first), list(first), dict(zip("ab", first))):
                self.judge(group, thing)
                for other in ((thing, thing), (first[0], thing), (thing, first[1]), first + (thing,)):
                    self.judge(group, other)
                self.judge(group, ((thing,), first[1]))
                self.judge(group, (first[0], (thing,) + group[1:]))


class Measures(Asking):
    def test_measure_and_bound(self):
        for rng, stand, group in grouped_stands(152, 2):
            sizes, bounds = sizes_in(stand, group), bounds_in(stand, group)
            for parting in rng.sample(partings_in(group), min(len(bounds), 15)):
                told = self.ask(measure, stand, parting)
                self.assertIs(type(told), int)
                self.assertEqual(told, sum(sizes[part] for part in parting) - sizes[group])
                self.assertGreaterEqual(told, 0)
                told = self.ask(bound, stand, parting)
                self.assertIs(type(told), int)
                self.assertEqual(told, bounds[parting])

    def test_a_call_of_the_group_never_raises_it(self):
        falls = 0
        for rng, stand, group in grouped_stands(153, 2):
            chosen = rng.sample(partings_in(group), min(len(partings_in(group)), 10))
            ahead = [measure(stand, parting) for parting in chosen]
            for _ in range(3):
                name = rng.choice(group)
                stand = behind(stand, name, drawn_known(rng, stand, name))
                later = [measure(stand, parting) for parting in chosen]
                self.assertTrue(all(0 <= one <= other for one, other in zip(later, ahead)))
                falls += later != ahead
                ahead = later
        self.assertGreater(falls, 30)

    def test_by_hand(self):
        whole = ((1, 0), (0, 1))
        stand = (5, 2, (), (("a", ((1, 0),)), ("b", ((0, 1),)), ("c", whole), ("d", ((1, 3),))))
        self.assertEqual(measure(stand, (("a",), ("b",))), 0)
        self.assertEqual(measure(stand, (("a",), ("b",), ("c",))), 2)
        self.assertEqual(measure(stand, (("a", "b"), ("c",))), 2)
        self.assertEqual(bound(stand, (("a",), ("b",))), 2)
        self.assertEqual(bound(stand, (("a",), ("b",), ("c",))), 1)
        self.assertEqual(bound(stand, (("a", "b"), ("c",))), 0)
        # Three hands with one row each, all in two numbers: a measure of 1 by two is a whole part of 0.
        self.assertEqual(measure(stand, (("a",), ("b",), ("d",))), 1)
        self.assertEqual(bound(stand, (("a",), ("b",), ("d",))), 2)


class Tight(Asking):
    def test_the_first_of_the_greatest(self):
        for rng, stand, group in grouped_stands(154, 3):
            bounds = bounds_in(stand, group)
            greatest = max(bounds.values())
            told = self.ask(tight, stand, group)
            self.assertEqual(told, (greatest, [parting for parting in bounds if bounds[parting] == greatest][0]))
            self.assertTrue(only_tuples(told) and type(told[0]) is int)
            self.assert_judged(True, tight_holds, stand, group, told)
            self.assertEqual(self.ask(fewest, stand, group), greatest)
            self.assertEqual(self.ask(most, stand, group), size_in(stand, group) - greatest)

    def test_whatever_was_asked_between(self):
        rng = random.Random(155)
        stands = [drawn_stand(rng, rng.choice((5, 7)), rng.randrange(1, 9), 4) for _ in range(10)]
        told = [(tight(stand, names_of(stand)), most(stand, names_of(stand))) for stand in stands]
        again = [(tight(stand, names_of(stand)), most(stand, names_of(stand))) for stand in stands[::-1]]
        self.assertEqual(told, again[::-1])


def is_tight(stand, group, thing):
    if type(thing) is not tuple or len(thing) != 2 or type(thing[0]) is not int:
        return False
    return is_right(group, thing[1]) and bounds_in(stand, group)[thing[1]] == thing[0]


class TightHolds(Asking):
    def judge(self, stand, group, thing):
        self.assert_judged(is_tight(stand, group, thing), tight_holds, stand, group, thing)

    def test_any_parting_with_its_own_bound(self):
        for rng, stand, group in grouped_stands(156, 1):
            bounds = bounds_in(stand, group)
            for parting in rng.sample(partings_in(group), min(len(bounds), 12)):
                self.assert_judged(True, tight_holds, stand, group, (bounds[parting], parting))
                for number in (bounds[parting] + 1, bounds[parting] - 1, str(bounds[parting]), None):
                    self.assert_judged(False, tight_holds, stand, group, (number, parting))

    def test_partings_of_other_hands(self):
        for rng, stand, group in grouped_stands(157, 1, (5, 101)):
            for other in groups_in(stand):
                parting = rng.choice(partings_in(other))
                self.assert_judged(
                    other == group, tight_holds, stand, group, (bounds_in(stand, other)[parting], parting))

    def test_bent_pairs(self):
        for rng, stand, group in grouped_stands(158, 1, (5,)):
            things = list(bent(tight(stand, group)))
            for thing in rng.sample(things, min(len(things), 60)):
                self.judge(stand, group, thing)

    def test_truths_and_things_of_any_kind(self):
        stand = (5, 2, (), (("ann", ((1, 0),)), ("bob", ((1, 0), (0, 1))), ("cy", ((1, 0),))))
        parting = (("ann",), ("bob",))
        self.assert_judged(True, tight_holds, stand, ("ann", "bob"), (1, parting))
        self.assert_judged(False, tight_holds, stand, ("ann", "bob"), (True, parting))
        self.assert_judged(False, tight_holds, stand, ("ann", "bob"), [1, parting])
        self.assert_judged(False, tight_holds, stand, ("ann", "bob"), (1, parting, parting))
        self.assert_judged(True, tight_holds, stand, ("ann", "cy"), (0, (("ann",), ("cy",))))
        self.assert_judged(False, tight_holds, stand, ("ann", "cy"), (False, (("ann",), ("cy",))))
        for thing in (*odd_things(), 0, 1, *LONG_NUMBERS, parting):
            for other in (thing, (thing, parting), (1, thing), (thing, thing), (1, (thing, ("bob",)))):
                self.judge(stand, ("ann", "bob"), other)
            self.judge(stand, ("ann", "bob"), (1, parting, thing))


class AllCallsGoneThrough(Asking):
    def check(self, stand, group):
        self.assertEqual((fewest(stand, group), most(stand, group)), all_calls(stand, group))

    def test_by_5_and_few_numbers(self):
        rng, seen = random.Random(159), set()
        for _ in range(45):
            for draw in (drawn_stand, quiet_stand, pooled_stand):
                stand = draw(rng, 5, rng.choice((1, 2, 2, 3, 3, 3)), rng.randrange(2, 7))
                group = drawn_group(rng, stand)
                self.check(stand, group)
                seen.add((fewest(stand, group), most(stand, group)))
        self.assertGreater(len(seen), 6)

    def test_by_5_and_four_numbers(self):
        rng = random.Random(163)
        for many in (2, 3, 4, 5):
            stand = quiet_stand(rng, 5, 4, many)
            self.check(stand, names_of(stand))

    def test_by_7(self):
        rng = random.Random(160)
        for _ in range(8):
            stand = drawn_stand(rng, 7, 2, rng.randrange(2, 7))
            self.check(stand, names_of(stand))

    def test_each_two_of_three_numbers(self):
        # By the parting into three the measure is 3, and the whole part of 3 by two is 1.
        rows = ((1, 0, 0), (0, 1, 0), (0, 0, 1))
        stand = (5, 3, (), (("a", rows[:2]), ("b", rows[1:]), ("c", rows[::2])))
        self.assertEqual((fewest(stand, ("a", "b", "c")), most(stand, ("a", "b", "c"))), (2, 1))
        self.check(stand, ("a", "b", "c"))

    def test_one_that_knows_two_rows_and_five_that_know_one_each(self):
        first, last = ("a", ((1, 0), (0, 1))), ("g", ((0, 1),))
        others = tuple((name, (row,)) for name, row in zip("bcdef", ((1, 0), (1, 1), (1, 2), (1, 3), (1, 4))))
        for hands in ((first, *others), (first, *others[1:], last)):
            stand = (5, 2, (), hands)
            self.assertEqual(fewest(stand, names_of(stand)), 1)
            self.check(stand, names_of(stand))

    def test_of_two_hands_what_each_lacks(self):
        for rng, stand in drawn_stands(161, 4):
            one, other = group = tuple(sorted(rng.sample(names_of(stand), 2)))
            k = size_in(stand, group)
            self.assertEqual(fewest(stand, group), 2 * k - size_in(stand, (one,)) - size_in(stand, (other,)))

    def test_both_together(self):
        for rng, stand, group in grouped_stands(162, 2):
            self.assertEqual(fewest(stand, group) + most(stand, group), size_in(stand, group))
            self.assertGreaterEqual(min(fewest(stand, group), most(stand, group)), 0)


if __name__ == "__main__":
    unittest.main()
