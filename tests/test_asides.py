"""Point 21: a call by which one hand learns a row and another one doesn't, or the room that shows there is none."""

import itertools
import random
import unittest

from opencalls import errors
from opencalls.asides import aside, aside_holds
from opencalls.stands import behind
from things import (
    LONG_NUMBERS, Asking, all_rows, bent, combined, drawn_known, drawn_row, drawn_rows, drawn_stand, drawn_stands,
    has_row, is_plain, is_rests, names_of, odd_things, only_tuples, plain_of, pooled_stand, quiet_stand, span_of,
)

STAND = (5, 3, (), (("ann", ((1, 0, 0),)), ("bob", ((1, 0, 0), (0, 1, 0))), ("cy", ((0, 1, 1),))))


def is_right_call(stand, caller, learner, other, row, call):
    """Whether by the call, known to the caller, the learner comes to know the row and the other one doesn't."""
    p, rooms = stand[0], dict(stand[3])
    if not is_rests(p, stand[1], call) or not has_row(p, rooms[caller], call):
        return False
    return has_row(p, rooms[learner] + (call,), row) and not has_row(p, rooms[other] + (call,), row)


def way_in(stand, caller, learner, row):
    """All rows that the caller knows among what the learner, told the row, would know, one by one."""
    p, n, known, hands = stand
    rooms = dict(hands)
    return span_of(p, n, rooms[caller]) & span_of(p, n, rooms[learner] + (row,))


def is_right(stand, caller, learner, other, row, thing):
    """Whether a thing is right by the words of point 21; for few numbers only, for its rows are gone through."""
    p, n, known, hands = stand
    rooms = dict(hands)
    if type(thing) is not tuple or len(thing) != 2 or type(thing[0]) is not str:
        return False
    word, told = thing
    if word == "call":
        return is_right_call(stand, caller, learner, other, row, told)
    way = way_in(stand, caller, learner, row)
    if word != "none" or not is_plain(p, n, told) or span_of(p, n, told) != way:
        return False
    learners, others = span_of(p, n, rooms[learner]), span_of(p, n, rooms[other])
    return way <= learners or (way <= span_of(p, n, rooms[other] + (row,)) and way & others <= learners)


def asked(stand, row):
    """All three hands, two or all of them the same too, of which neither learner nor other one knows the row."""
    rooms = dict(stand[3])
    strangers = [name for name in rooms if not has_row(stand[0], rooms[name], row)]
    return list(itertools.product(rooms, strangers, strangers))


def few_stands(seed, many):
    rng = random.Random(seed)
    for _ in range(many):
        draw = rng.choice((drawn_stand, quiet_stand, pooled_stand))
        stand = draw(rng, 5, rng.choice((1, 2, 2, 3, 3)), rng.randrange(2, 5))
        yield rng, stand, drawn_row(rng, 5, stand[1])


class Told(Asking):
    def test_all_calls_of_the_caller_gone_through(self):
        words = []
        for rng, stand, row in few_stands(221, 80):
            for hands in asked(stand, row):
                calls = [call for call in all_rows(5, stand[1]) if is_right_call(stand, *hands, row, call)]
                told = self.ask(aside, stand, *hands, row)
                self.assertTrue(type(told) is tuple and len(told) == 2 and only_tuples(told))
                self.assertEqual(told[0], "call" if calls else "none")
                self.assertTrue(is_right(stand, *hands, row, told), (stand, hands, row, told))
                self.assert_judged(True, aside_holds, stand, *hands, row, told)
                words.append(told[0] if len(set(hands)) == 3 else (told[0], hands[1] == hands[2]))
        self.assertEqual(set(words), {"call", "none", ("call", False), ("none", False), ("none", True)})
        self.assertTrue(min(words.count(word) for word in set(words)) > 20, [(w, words.count(w)) for w in set(words)])

    def test_greater_stands(self):
        words = []
        for rng, stand in drawn_stands(222, 2):
            pooled = pooled_stand(rng, stand[0], stand[1], len(stand[3]))
            for one in (stand, pooled):
                row = rng.choice((drawn_row(rng, one[0], one[1]), drawn_known(rng, one, rng.choice(names_of(one)))))
                some = asked(one, row)
                for hands in rng.sample(some, min(len(some), 6)):
                    told = self.ask(aside, one, *hands, row)
                    self.check(one, hands, row, told)
                    words.append(told[0])
        self.assertTrue(min(words.count("call"), words.count("none")) > 20)

    def check(self, stand, hands, row, told):
        caller, learner, other = hands
        self.assert_judged(True, aside_holds, stand, *hands, row, told)
        word, thing = told
        if word == "call":
            self.assertTrue(is_right_call(stand, *hands, row, thing))
            later = dict(behind(stand, caller, thing)[3])
            self.assertTrue(has_row(stand[0], later[learner], row))
            self.assertFalse(has_row(stand[0], later[other], row))
        else:
            self.assertTrue(is_plain(stand[0], stand[1], thing))

    def test_one_hand_as_two(self):
        for rng, stand, row in few_stands(223, 30):
            for caller, learner, other in asked(stand, row):
                if learner in (caller, other):
                    self.assertEqual(aside(stand, caller, learner, other, row)[0], "none")

    def test_by_hand(self):
        # Of (1, 1, 0) bob can call (0, 1, 0), by which ann knows it, and cy doesn't.
        word, call = aside(STAND, "bob", "ann", "cy", (1, 1, 0))
        self.assertEqual(word, "call")
        self.assertTrue(is_right_call(STAND, "bob", "ann", "cy", (1, 1, 0), call))
        self.assertEqual(aside(STAND, "cy", "ann", "cy", (0, 1, 0)), ("none", ()))
        # What ann would know of bob's rows, told (0, 1, 0), is all that he knows, and each call of it tells dan, too.
        stand = STAND[:3] + (STAND[3][:2] + (("dan", ((1, 0, 0),)),),)
        self.assertEqual(aside(stand, "bob", "ann", "dan", (0, 1, 0)), ("none", ((1, 0, 0), (0, 1, 0))))
        # Here bob can tell ann what dan knows already, and with what ann knows it makes the row.
        stand = (5, 2, (), (("ann", ((1, 0),)), ("bob", ((1, 0), (0, 1))), ("dan", ((0, 1),))))
        word, call = aside(stand, "bob", "ann", "dan", (1, 1))
        self.assertEqual((word, call[0], call[1] != 0), ("call", 0, True))


class Refused(Asking):
    def assert_refused(self, name, field, *things):
        before = repr(things)
        for _ in range(2):
            with self.assertRaises((ValueError, LookupError), msg=before[:200]) as caught:
                aside(*things)
            self.assertIs(type(caught.exception), getattr(errors, name), before[:300])
            for told in vars(caught.exception).values():
                self.assertIs(told, field)
        self.assertEqual(repr(things), before)

    def strange_names(self):
        return [*[thing for thing in odd_things() if thing != "ann"], 0, *LONG_NUMBERS, "zoe", "Ann", ["bob"], ("bob",)]

    def test_no_hand_the_first_that_isn_t_there(self):
        for name in self.strange_names():
            for row in ((0, 0, 1), (0, 0, 0), None, [0, 0, 1]):
                self.assert_refused("NoHand", name, STAND, name, "bob", "cy", row)
                self.assert_refused("NoHand", name, STAND, "ann", name, "cy", row)
                self.assert_refused("NoHand", name, STAND, "ann", "bob", name, row)
                self.assert_refused("NoHand", name, STAND, name, "zac", "zed", row)
                self.assert_refused("NoHand", name, STAND, "ann", name, "zed", row)
                self.assert_refused("NoHand", name, STAND, name, name, name, row)

    def test_no_row(self):
        for row in (
            *odd_things(), 0, *LONG_NUMBERS, [0, 0, 1], (0, 0), (0, 0, 5), (0, 0, -1), (0, 0, True), (0, 0, 0, 1), "1",
        ):
            for hands in itertools.product(("ann", "bob", "cy"), repeat=3):
                self.assert_refused("NoRow", None, STAND, *hands, row)

    def test_known_to_the_learner_then_to_the_other_one(self):
        many = 0
        for rng, stand, row in few_stands(224, 60):
            rooms = dict(stand[3])
            for caller, learner, other in itertools.product(rooms, repeat=3):
                known = [name for name in (learner, other) if has_row(5, rooms[name], row)]
                if known:
                    self.assert_refused("Known", known[0], stand, caller, learner, other, row)
                    many += 1
        self.assertGreater(many, 200)
        self.assert_refused("Known", "bob", STAND, "cy", "bob", "ann", (1, 0, 0))
        self.assert_refused("Known", "ann", STAND, "cy", "ann", "bob", (1, 0, 0))
        self.assert_refused("Known", "bob", STAND, "cy", "ann", "bob", (0, 1, 0))
        self.assert_refused("Known", "cy", STAND, "ann", "cy", "cy", (0, 0, 0))


class Judged(Asking):
    def judge(self, stand, hands, row, thing):
        self.assert_judged(is_right(stand, *hands, row, thing), aside_holds, stand, *hands, row, thing)

    def test_every_call_there_is(self):
        answers = []
        for rng, stand, row in few_stands(225, 60):
            some = [hands for hands in asked(stand, row) if hands[1] not in (hands[0], hands[2])]
            for hands in rng.sample(some, min(len(some), 8)):
                for call in all_rows(5, stand[1]):
                    answers.append(is_right_call(stand, *hands, row, call))
                    self.assert_judged(answers[-1], aside_holds, stand, *hands, row, ("call", call))
        self.assertTrue(min(answers.count(True), answers.count(False)) > 100)

    def rooms(self, rng, stand, hands, row):
        """The room that may be right, and others beside it."""
        p, n = stand[:2]
        room = plain_of(p, n, tuple(way_in(stand, hands[0], hands[1], row)))
        yield from (room, (), room[1:], room[:-1], room + ((0,) * n,), room[::-1], list(room), room + room[:1])
        yield tuple(tuple(2 * rest % p for rest in one) for one in room)
        yield tuple(tuple(bool(rest) if rest < 2 else rest for rest in one) for one in room)
        yield plain_of(p, n, room + drawn_rows(rng, p, n, 1))
        yield room + (combined(p, n, room, drawn_row(rng, p, len(room))),)
        for name in hands:
            yield dict(stand[3])[name]
            yield plain_of(p, n, dict(stand[3])[name] + (row,))

    def test_rooms_and_words(self):
        answers = []
        for rng, stand, row in few_stands(226, 40):
            for hands in asked(stand, row):
                told = aside(stand, *hands, row)
                for room in self.rooms(rng, stand, hands, row):
                    self.judge(stand, hands, row, ("none", room))
                    answers.append(aside_holds(stand, *hands, row, ("none", room)))
                for word in ("call", "none", "Call", "", "calls", None, True, 0, ("call",), ["none"]):
                    self.judge(stand, hands, row, (word, told[1]))
                for thing in (told + told, told[:1], told[1:], told[::-1], list(told), told[1], told[0], (told,)):
                    self.judge(stand, hands, row, thing)
        self.assertTrue(min(answers.count(True), answers.count(False)) > 300)

    def test_just_one_of_both_is_right(self):
        for rng, stand, row in few_stands(227, 40):
            for hands in asked(stand, row):
                way = plain_of(5, stand[1], tuple(way_in(stand, hands[0], hands[1], row)))
                none = aside_holds(stand, *hands, row, ("none", way))
                calls = [call for call in span_of(5, stand[1], way) if aside_holds(stand, *hands, row, ("call", call))]
                self.assertIs(none, not calls)

    def test_bent_ones(self):
        for rng, stand, row in few_stands(228, 15):
            some = asked(stand, row)
            for hands in rng.sample(some, min(len(some), 2)):
                for thing in bent(aside(stand, *hands, row)):
                    self.judge(stand, hands, row, thing)

    def test_things_of_any_kind(self):
        for hands, row in ((("bob", "ann", "cy"), (1, 1, 0)), (("ann", "cy", "ann"), (0, 0, 1))):
            for thing in (*odd_things(), 0, *LONG_NUMBERS, "call", "none", "call 0 1 0"):
                for other in (thing, (thing, ()), (thing, (0, 1, 0)), ("call", (0, thing, 0)), ("none", (thing,))):
                    self.judge(STAND, hands, row, other)
                for word in ("call", "none"):
                    self.judge(STAND, hands, row, (word, thing))


if __name__ == "__main__":
    unittest.main()
