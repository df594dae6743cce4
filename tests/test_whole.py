"""Points 1 and 2: what holds over the whole program, by drawn books."""

import random
import unittest

from opencalls.asides import aside, aside_holds
from opencalls.books import Book
from opencalls.papers import makes_hold, parted_hold
from opencalls.partings import bound, fewest, is_parting, measure, most, tight, tight_holds
from opencalls.plans import plan, plan_holds
from opencalls.secrets import are_secrets, gain, secrets
from opencalls.shares import shares, shares_hold, wanting
from opencalls.stands import at_one, behind, is_stand
from opencalls.texts import read_stand, stand_text
from things import (
    Asking, are_at_one, combined, done_by, drawn_books, drawn_row, first_hands, has_row, is_plan_in, partings_in,
    rank_of, size_in,
)


def group_of(rng, names):
    return tuple(sorted(rng.sample(names, rng.randrange(2, len(names) + 1))))


def both(stand, group):
    return (fewest(stand, group), most(stand, group))


def with_hands(stand, hands):
    return stand[:3] + (tuple(sorted(hands)),)


class EveryMoment(Asking):
    def test_both_numbers_together_are_k(self):
        for rng, book, model in drawn_books(251, 30, 14):
            for at in range(len(book) + 1):
                stand = book.stand(at=at)
                group = group_of(rng, book.names(at=at))
                few, many = both(stand, group)
                self.assertEqual(few + many, size_in(stand, group))
                self.assertTrue(min(few, many) >= 0)

    def test_each_answer_with_its_proof(self):
        for rng, book, model in drawn_books(252, 30, 12):
            for at in rng.sample(range(len(book) + 1), min(len(book) + 1, 5)):
                stand = self.ask(book.stand, at=at)
                self.assertTrue(is_stand(stand))
                self.assertEqual(self.ask(read_stand, stand_text(stand)), stand)
                group = group_of(rng, book.names(at=at))
                number, parting = self.ask(tight, stand, group)
                self.assert_judged(True, tight_holds, stand, group, (number, parting))
                self.assertTrue(is_parting(group, parting) and bound(stand, parting) == number == fewest(stand, group))
                numbers = self.ask(shares, stand, group)
                self.assert_judged(True, shares_hold, stand, group, numbers)
                self.assertEqual((sum(numbers), wanting(stand, group, numbers)), (number, None))
                calls, rows = self.ask(gain, stand, group)
                self.assertEqual((len(calls), len(rows)), both(stand, group))
                self.assertTrue(plan_holds(stand, group, calls) and is_plan_in(stand, group, calls))
                for name, row in calls:
                    stand = behind(stand, name, row)
                self.assertTrue(at_one(stand, group) and are_at_one(stand, group))
                self.assert_judged(True, are_secrets, stand, group, rows)
                self.assertEqual(secrets(stand, group), len(rows))

    def test_just_one_of_two_papers(self):
        for rng, book, model in drawn_books(253, 30, 12):
            for at, (n, called, hands) in enumerate(model.moments):
                group = rng.choice(((), group_of(rng, book.names(at=at))))
                heard = book.heard(group, at=at)
                made = combined(model.p, n, heard, drawn_row(rng, model.p, len(heard)))
                for row in (made, drawn_row(rng, model.p, n)):
                    word, paper = self.ask(book.why, group, row, at=at)
                    makes = makes_hold(model.p, n, heard, row, paper)
                    parted = parted_hold(model.p, n, heard, row, paper)
                    self.assertEqual((makes, parted), (word == "makes", word == "parted"))
                    self.assertIs(book.knows(group, row, at=at), makes)

    def test_asides_said_to_the_book(self):
        many = 0
        for rng, book, model in drawn_books(254, 120, 8):
            stand, names = book.stand(), book.names()
            row = drawn_row(rng, model.p, stand[1])
            caller, learner, other = [rng.choice(names) for _ in range(3)]
            if book.knows((learner,), row) or book.knows((other,), row):
                continue
            word, thing = told = self.ask(aside, stand, caller, learner, other, row)
            self.assert_judged(True, aside_holds, stand, caller, learner, other, row, told)
            if word == "call":
                book.call(caller, thing)
                self.assertTrue(book.knows((learner,), row) and not book.knows((other,), row))
                many += 1
        self.assertGreater(many, 3)

    def test_past_moments_stay_as_they_were(self):
        for rng, book, model in drawn_books(255, 30, 0):
            told = []
            for _ in range(14):
                deed = model.drawn_deed(rng)
                if model.refusal(deed) is None:
                    told.append([both(book.stand(), group_of(random.Random(1), book.names())), plan_of(book)])
                    done_by(book, deed)
                    model.do(deed)
            for at, (numbers, calls) in enumerate(told):
                stand, names = book.stand(at=at), book.names(at=at)
                self.assertEqual(both(stand, group_of(random.Random(1), names)), numbers)
                self.assertEqual(plan(stand, names), calls)


def plan_of(book):
    return plan(book.stand(), book.names())


class Calls(Asking):
    def test_one_of_both_goes_down_by_one_where_a_call_tells_something(self):
        seen = []
        for rng, book, model in drawn_books(256, 60, 6):
            group = group_of(rng, book.names())
            for _ in range(6):
                stand = book.stand()
                few, many = both(stand, group)
                hand = rng.choice(group)
                known = book.known((hand,))
                row = combined(model.p, stand[1], known, drawn_row(rng, model.p, len(known)))
                tells = not book.knows((), row)
                chosen = rng.sample(partings_in(group), min(len(partings_in(group)), 4))
                measures = [measure(stand, parting) for parting in chosen]
                book.call(hand, row)
                later = both(book.stand(), group)
                wanted = [(few - 1, many), (few, many - 1)] if tells else [(few, many)]
                self.assertIn(later, wanted)
                seen.append((tells, later[0] < few))
                for parting, ahead in zip(chosen, measures):
                    self.assertLessEqual(measure(book.stand(), parting), ahead)
        self.assertEqual(set(seen), {(True, True), (True, False), (False, False)})

    def test_idle_calls_left_out(self):
        many = 0
        for rng, book, model in drawn_books(257, 60, 25):
            idle = book.idle()
            other = Book(model.p, model.moments[0][0], first_hands(model))
            for number, deed in enumerate(book.its_deeds()):
                if number not in idle:
                    done_by(other, deed)
            self.assertEqual(other.stand(), book.stand())
            self.assertEqual(other.idle(), ())
            self.assertEqual(plan_of(other), plan_of(book))
            many += len(idle)
        self.assertGreater(many, 10)

    def test_calls_of_a_plan_said_to_the_book(self):
        for rng, book, model in drawn_books(258, 30, 6):
            group = group_of(rng, book.names())
            few, many = both(book.stand(), group)
            calls = plan(book.stand(), group)
            for done, (name, row) in enumerate(calls, 1):
                book.call(name, row)
                self.assertEqual(both(book.stand(), group), (few - done, many))
            self.assertEqual(book.common(group), book.known(group))


class NumbersMore(Asking):
    def test_whispered_to_one_hand_alone(self):
        for rng, book, model in drawn_books(259, 60, 8):
            group = group_of(rng, book.names())
            few, many = both(book.stand(), group)
            if book.stand()[1] < 8:
                book.hide()
                self.assertEqual(both(book.stand(), group), (few, many))
                book.whisper((rng.choice(group),), (0,) * (book.stand()[1] - 1) + (1,))
                self.assertEqual(both(book.stand(), group), (few + 1, many))

    def test_whispered_to_the_whole_group(self):
        for rng, book, model in drawn_books(260, 60, 8):
            group = group_of(rng, book.names())
            few, many = both(book.stand(), group)
            ahead = secrets(book.stand(), group)
            if book.stand()[1] < 8:
                book.hide()
                book.whisper(group, (0,) * (book.stand()[1] - 1) + (rng.randrange(1, model.p),))
                self.assertEqual(both(book.stand(), group), (few, many + 1))
                self.assertEqual(secrets(book.stand(), group), ahead + 1)

    def test_whispered_to_hands_beside_the_group(self):
        for rng, book, model in drawn_books(261, 60, 8):
            group = group_of(rng, book.names())
            others = tuple(name for name in book.names() if name not in group)
            if others:
                ahead = [question(book.stand(), group) for question in (tight, most, shares, plan, gain, secrets)]
                book.whisper(others, drawn_row(rng, model.p, book.stand()[1]))
                later = [question(book.stand(), group) for question in (tight, most, shares, plan, gain, secrets)]
                self.assertEqual(later, ahead)

    def test_numbers_changed(self):
        many = 0
        for rng, book, model in drawn_books(262, 60, 8):
            group = group_of(rng, book.names())
            questions = (tight, most, shares, secrets)
            ahead = [question(book.stand(), group) for question in questions]
            for _ in range(3):
                n = book.stand()[1]
                place, row = rng.randrange(n), drawn_row(rng, model.p, n)
                if row[place]:
                    calls = plan(book.stand(), group)
                    book.change(place, row)
                    many += 1
                    self.assertEqual([question(book.stand(), group) for question in questions], ahead)
                    self.assertEqual(len(plan(book.stand(), group)), len(calls))
        self.assertGreater(many, 30)


class HandsOtherwise(Asking):
    def test_a_copy_of_a_hand(self):
        for rng, book, model in drawn_books(263, 60, 8):
            stand = book.stand()
            group = group_of(rng, book.names())
            if len(stand[3]) < 6:
                room = dict(stand[3])[rng.choice(group)]
                copied = with_hands(stand, stand[3] + (("copy", room),))
                wider = tuple(sorted(group + ("copy",)))
                self.assertEqual(both(copied, wider), both(stand, group))
                self.assertEqual(secrets(copied, wider), secrets(stand, group))

    def test_hands_put_together(self):
        seen = set()
        for rng, book, model in drawn_books(264, 60, 6):
            group = group_of(rng, book.names())
            if len(group) > 2:
                one, other = pair = tuple(sorted(rng.sample(group, 2)))
                ahead = both(book.stand(), group)
                book.meet(pair)
                later = both(book.stand(), group)
                # As one hand, the two hands together know the same, so nothing changes where one of them is left out.
                self.assertEqual(both(book.stand(), tuple(name for name in group if name != other)), later)
                self.assertLessEqual(later[0], ahead[0])
                self.assertEqual(sum(later), sum(ahead))
                seen.add(later[0] < ahead[0])
        self.assertEqual(seen, {True, False})

    def test_other_hands_beside_a_group(self):
        for rng, book, model in drawn_books(265, 60, 8):
            stand = book.stand()
            group = group_of(rng, book.names())
            alone = with_hands(stand, [pair for pair in stand[3] if pair[0] in group])
            for question in (tight, fewest, most, shares, plan, gain, secrets):
                self.assertEqual(question(alone, group), question(stand, group))

    def test_other_names(self):
        for rng, book, model in drawn_books(266, 60, 8):
            p, n, known, hands = stand = book.stand()
            names = dict(zip(book.names(), ("a", "ab", "abc", "b", "ba", "c")))
            group = group_of(rng, book.names())
            renamed = (p, n, known, tuple((names[name], room) for name, room in hands))
            other = tuple(names[name] for name in group)
            # The new names stand in the order of the old ones, so all is told of them alike.
            self.assertEqual(shares(renamed, other), shares(stand, group))
            self.assertEqual(plan(renamed, other), tuple((names[name], row) for name, row in plan(stand, group)))
            self.assertEqual(gain(renamed, other)[1], gain(stand, group)[1])
            turned = with_hands(stand, [(name, room) for (name, old), (new, room) in zip(hands, hands[::-1])])
            if group == book.names():
                self.assertEqual(both(turned, group), both(stand, group))

    def test_a_hand_that_comes_and_goes(self):
        for rng, book, model in drawn_books(267, 60, 8):
            group = group_of(rng, book.names())
            if len(book.names()) < 6 and "zed" not in book.names():
                ahead = (both(book.stand(), group), plan(book.stand(), group))
                book.come("zed", (drawn_row(rng, model.p, book.stand()[1]),))
                self.assertEqual((both(book.stand(), group), plan(book.stand(), group)), ahead)
                book.go("zed")
                self.assertEqual((both(book.stand(), group), plan(book.stand(), group)), ahead)

    def test_a_hand_that_knows_just_the_calls(self):
        for rng, book, model in drawn_books(268, 60, 8):
            group = group_of(rng, book.names())
            if len(book.names()) < 6 and "zed" not in book.names():
                book.come("zed", ())
                wider = tuple(sorted(group + ("zed",)))
                k = size_in(book.stand(), group)
                self.assertEqual(both(book.stand(), wider), (k, 0))
                self.assertEqual(secrets(book.stand(), wider), 0)


class TheListener(Asking):
    def test_it_knows_only_what_was_called(self):
        for rng, book, model in drawn_books(269, 30, 15):
            n, called, hands = model.moments[-1]
            self.assertEqual(len(book.known(())), rank_of(model.p, called))
            self.assertTrue(all(has_row(model.p, hands[name], row) for name in hands for row in book.known(())))


if __name__ == "__main__":
    unittest.main()
