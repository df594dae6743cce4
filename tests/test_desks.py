"""Point 23: a desk, beside a book of the test's own and beside a book that is told the same deeds."""

import random
import re
import unittest

from opencalls.books import Book
from opencalls.desks import Desk
from things import (
    LONG_NUMBERS, bounds_in, done_by, drawn_model, drawn_row, first_hands, group_refused, has_row, is_plan_in, is_rests,
    odd_things, plain_of, refused_by, seen_of, size_in,
)

NAME = "[a-z]{1,8}"
NUMBER = "(?:0|[1-9][0-9]{0,5})"
HANDS = (("ann", ((1, 0),)), ("bob", ((0, 1),)), ("cy", ()))
# What can be said of HANDS with two hidden numbers, one line for each word.
LINES = (
    "call ann 1 0", "whisper ann,bob 1 1", "meet bob,cy", "hide", "change 1 1 1", "come dan 1 0 , 0 1", "come eli -",
    "go cy", "back", "knows ann,cy 1 0", "knows - 0 1", "fewest ann,bob", "most ann,bob,cy", "plan ann,bob", "hands",
    "open",
)


def deed_in(n, line):
    """The word of the line and its things, by the words of point 23; None where it is no line."""
    row = NUMBER + f" {NUMBER}" * (n - 1)
    forms = (
        f"(call) ({NAME}) ({row})", f"(whisper) ({NAME}(?:,{NAME})*) ({row})", f"(meet) ({NAME}(?:,{NAME})*)", "(hide)",
        f"(change) ({NUMBER}) ({row})", f"(come) ({NAME}) (-|{row}(?: , {row})*)", f"(go) ({NAME})", "(back)",
        f"(knows) (-|{NAME}(?:,{NAME})*) ({row})", f"(fewest|most|plan) ({NAME}(?:,{NAME})*)", "(hands|open)",
    )
    for form in forms:
        found = re.fullmatch(form, line) if type(line) is str else None
        if found is not None:
            return tuple(thing_in(found[1], at, text) for at, text in enumerate(found.groups()))
    return None


def thing_in(word, at, text):
    """What a text at this place of a line is."""
    if at == 0 or (at == 1 and word in ("call", "come", "go")):
        return text
    if at == 1:
        return int(text) if word == "change" else tuple(text.split(",")) if text != "-" else ()
    if word == "come":
        return tuple(row_in(row) for row in text.split(" , ")) if text != "-" else ()
    return row_in(text)


def row_in(text):
    return tuple(map(int, text.split(" ")))


def stand_in(model):
    n, called, hands = model.moments[-1]
    rooms = tuple((name, plain_of(model.p, n, hands[name])) for name in sorted(hands))
    return (model.p, n, plain_of(model.p, n, called), rooms)


def refusal_in(model, deed):
    """The class name of the refusal that is due, or None."""
    n, called, hands = model.moments[-1]
    if deed[0] == "back":
        return None if model.deeds else "NothingBack"
    if deed[0] in ("hands", "open"):
        return None
    if deed[0] not in ("knows", "fewest", "most", "plan"):
        refused = model.refusal(deed)
        return None if refused is None else refused[0]
    refused = group_refused(hands, deed[1], 0 if deed[0] == "knows" else 2)
    if refused is not None:
        return refused[0]
    return "NoRow" if deed[0] == "knows" and not is_rests(model.p, n, deed[2]) else None


def text_of(deed):
    """A deed as a line."""
    word, *things = deed
    texts = [word]
    for thing in things:
        if type(thing) in (int, str):
            texts.append(str(thing))
        elif thing and type(thing[0]) is str:
            texts.append(",".join(thing))
        elif thing and type(thing[0]) is int:
            texts.append(" ".join(map(str, thing)))
        else:
            texts.append(" , ".join(" ".join(map(str, row)) for row in thing) or "-")
    return " ".join(texts)


class DeskTest(unittest.TestCase):
    def new_desk(self):
        book = Book(5, 2, HANDS)
        return book, Desk(book)

    def assert_answer(self, model, desk, line):
        """The desk's answer to the line beside the model, which is led along."""
        before = repr(line)
        told = desk.say(line)
        self.assertIs(type(told), str)
        self.assertEqual(repr(line), before)
        deed = deed_in(model.moments[-1][0], line)
        refused = None if deed is None else refusal_in(model, deed)
        if deed is None:
            self.assertEqual(told, "no line", before[:200])
        elif refused is not None:
            self.assertEqual(told, "no " + refused, before[:200])
        elif deed[0] in ("knows", "fewest", "most", "plan", "hands", "open"):
            self.check_question(model, deed, told)
            self.assertEqual(desk.say(line), told)
        else:
            self.assertEqual(told, "done", before[:200])
            if deed[0] == "back":
                model.back()
            else:
                model.do(deed)
        return told

    def check_question(self, model, deed, told):
        stand = stand_in(model)
        n, called, hands = model.moments[-1]
        if deed[0] == "knows":
            heard = sum([hands[name] for name in deed[1]], ()) if deed[1] else called
            self.assertEqual(told, "yes" if has_row(model.p, heard, deed[2]) else "no")
        elif deed[0] == "hands":
            self.assertEqual(told, " ".join(sorted(hands)))
        elif deed[0] == "open":
            self.assertEqual(told, ", ".join(" ".join(map(str, row)) for row in stand[2]) or "-")
        else:
            least = max(bounds_in(stand, deed[1]).values())
            if deed[0] == "plan":
                calls = calls_in(told)
                self.assertTrue(len(calls) == least and is_plan_in(stand, deed[1], calls))
            else:
                self.assertEqual(told, str(least if deed[0] == "fewest" else size_in(stand, deed[1]) - least))


def calls_in(told):
    """The calls of a plan's text, sign by sign."""
    if told == "-":
        return ()
    calls = [re.fullmatch(f"({NAME}) ({NUMBER}(?: {NUMBER})*)", text) for text in told.split(", ")]
    return tuple((call[1], row_in(call[2])) for call in calls)


def drawn_line(rng, model):
    """A line that is most often one."""
    n, called, hands = model.moments[-1]
    names = tuple(sorted(rng.sample(sorted(hands), rng.randrange(1, len(hands) + 1))))
    row = drawn_row(rng, model.p, n)
    way = rng.randrange(10)
    if way < 4:
        return text_of(model.drawn_deed(rng))
    if way == 4:
        return rng.choice(("back", "hands", "open", "hide"))
    if way == 5:
        return text_of(("knows", rng.choice((names, names, ())), row)).replace("knows  ", "knows - ")
    if way < 8:
        return text_of((rng.choice(("fewest", "most", "plan")), names))
    if way == 8:
        strange = rng.choice((names[::-1], names + ("zoe",), ("abe",) + names, names + names[:1]))
        word = rng.choice(("fewest", "most", "plan", "meet"))
        return text_of(rng.choice(((word, strange), ("whisper", strange, row), ("knows", strange, row))))
    wrong = row[:-1] + (model.p + rng.randrange(3),)
    return text_of(rng.choice((
        ("call", names[0], wrong), ("call", "zoe", wrong), ("come", "zoe", (row, wrong)), ("come", "zoe", (row,) * 9),
        ("come", names[0], (row,)), ("change", n, row), ("change", 999999, wrong), ("change", 0, wrong), ("go", "zoe"),
        ("whisper", names, wrong), ("knows", names, wrong),
    )))


class BesideBooks(DeskTest):
    def test_drawn_lines(self):
        rng, answers = random.Random(241), set()
        for _ in range(45):
            model = drawn_model(rng, rng.choice((5, 7, 101)), rng.randrange(1, 8), rng.randrange(2, 7))
            book, other = [Book(model.p, model.moments[0][0], first_hands(model)) for _ in range(2)]
            desk = Desk(book)
            for _ in range(70):
                line = drawn_line(rng, model)
                deed = deed_in(model.moments[-1][0], line)
                answers.add(self.assert_answer(model, desk, line))
                if deed is not None and deed[0] in ("call", "whisper", "meet", "hide", "change", "come", "go", "back"):
                    refused_by(lambda: done_by(other, deed))
            self.assertEqual(seen_of(book), seen_of(other))
            self.assertTrue(book == other and book.its_deeds() == tuple(model.deeds))
            self.assertEqual(book.log(), ())
        self.assertTrue({
            "done", "no", "yes", "no NoHand", "no NoGroup", "no NoRow", "no NotKnown", "no NoPlace", "no NoTurn",
            "no Taken", "no Full", "no Few", "no NothingBack", "0", "1", "2", "-",
        } <= answers, answers)

    def test_bent_lines(self):
        rng, signs = random.Random(242), " 019-,.a~AZ\n\t_"
        for _ in range(12):
            model = drawn_model(rng, 5, rng.randrange(1, 5), rng.randrange(2, 7))
            desk = Desk(Book(model.p, model.moments[0][0], first_hands(model)))
            for _ in range(150):
                line = drawn_line(rng, model)
                for _ in range(rng.choice((1, 1, 2))):
                    at = rng.randrange(len(line) + 1)
                    line = line[:at] + rng.choice(signs) * rng.randrange(2) + line[at + rng.randrange(2):]
                self.assert_answer(model, desk, line)

    def test_the_book_led_beside_the_desk(self):
        book, desk = self.new_desk()
        book.hide()
        self.assertEqual(desk.say("call ann 1 0"), "no line")
        self.assertEqual(desk.say("call ann 1 0 0"), "done")
        book.back()
        book.back()
        self.assertEqual(desk.say("open"), "-")
        self.assertEqual(desk.say("call ann 1 0"), "done")
        self.assertEqual(book.its_deeds(), (("call", "ann", (1, 0)),))
        self.assertEqual(Desk(book).say("open"), "1 0")


class EachLine(DeskTest):
    def test_by_hand(self):
        book, desk = self.new_desk()
        for line, answer in (
            ("hands", "ann bob cy"), ("open", "-"), ("fewest ann,bob", "2"), ("most ann,bob", "0"),
            ("fewest ann,cy", "1"),
            ("knows ann 3 0", "yes"), ("knows ann 0 1", "no"), ("knows ann,bob 4 1", "yes"), ("knows - 0 0", "yes"),
            ("knows - 1 0", "no"), ("whisper bob,cy 2 2", "done"), ("most bob,cy", "1"), ("fewest bob,cy", "1"),
            ("call ann 3 0", "done"), ("open", "1 0"), ("knows - 1 0", "yes"), ("call cy 1 1", "done"),
            ("open", "1 0, 0 1"), ("plan ann,bob,cy", "-"), ("fewest ann,bob,cy", "0"), ("back", "done"),
            ("hide", "done"),
            ("open", "1 0 0"), ("come dan 0 0 1 , 0 1 0", "done"), ("come eli -", "done"),
            ("hands", "ann bob cy dan eli"),
            ("meet ann,dan", "done"), ("knows ann 1 2 3", "yes"), ("change 2 1 0 1", "done"),
            ("knows ann 4 0 1", "yes"),
            ("go eli", "done"), ("go dan", "done"), ("go cy", "done"), ("go ann", "no Few"), ("hands", "ann bob"),
        ):
            self.assertEqual(desk.say(line), answer, line)
        self.assertEqual(len(book), 10)

    def test_each_refusal(self):
        for line, name in (
            ("call zoe 1 0", "NoHand"), ("call zoe 9 9", "NoHand"), ("call ann 1 5", "NoRow"),
            ("call ann 0 1", "NotKnown"),
            ("call bob 5 1", "NoRow"), ("whisper bob,ann 9 9", "NoGroup"), ("whisper ann,ann 1 0", "NoGroup"),
            ("whisper ann,zoe 9 9", "NoHand"), ("whisper ann 1 999999", "NoRow"), ("meet ann", "NoGroup"),
            ("meet zoe", "NoGroup"), ("meet bob,ann", "NoGroup"), ("meet ann,zoe", "NoHand"),
            ("change 2 9 9", "NoPlace"),
            ("change 999999 1 1", "NoPlace"), ("change 1 1 5", "NoRow"), ("change 1 1 0", "NoTurn"),
            ("come ann 9 9", "Taken"), ("come dan 1 5", "NoRow"), ("come dan 1 0 , 5 5", "NoRow"),
            ("come dan " + " , ".join(["1 0"] * 9), "NoRow"), ("go zoe", "NoHand"), ("back", "NothingBack"),
            ("knows bob,ann 9 9", "NoGroup"), ("knows zoe 9 9", "NoHand"), ("knows ann 9 9", "NoRow"),
            ("knows - 9 9", "NoRow"), ("knows ann,ann 0 0", "NoGroup"),
        ):
            book, desk = self.new_desk()
            ahead = seen_of(book)
            self.assertEqual(desk.say(line), "no " + name, line)
            self.assertEqual(seen_of(book), ahead)

    def test_full(self):
        book, desk = self.new_desk()
        for name in ("dan", "eli", "fay"):
            self.assertEqual(desk.say(f"come {name} 1 0"), "done")
        self.assertEqual(desk.say("come guy 1 0"), "no Full")
        self.assertEqual(desk.say("come guy 1 7"), "no NoRow")
        for _ in range(6):
            self.assertEqual(desk.say("hide"), "done")
        self.assertEqual(desk.say("hide"), "no Full")
        self.assertEqual(desk.say("come ann 1 0 0 0 0 0 0 0"), "no Taken")

    def test_groups_of_questions(self):
        book, desk = self.new_desk()
        for word in ("fewest", "most", "plan"):
            for hands, name in (
                ("bob,ann", "NoGroup"), ("ann,ann", "NoGroup"), ("ann", "NoGroup"), ("zoe", "NoGroup"),
                ("zoe,ann", "NoGroup"), ("ann,zoe", "NoHand"), ("abe,ann", "NoHand"), ("abe,zoe", "NoHand"),
                ("ann,bob,cy,dan,eli,fay,guy", "NoHand"),
            ):
                self.assertEqual(desk.say(f"{word} {hands}"), "no " + name)
            self.assertNotIn("no", desk.say(f"{word} ann,bob"))

    def test_a_number_of_six_figures_is_a_number(self):
        book, desk = self.new_desk()
        self.assertEqual(desk.say("call ann 100000 999999"), "no NoRow")
        self.assertEqual(desk.say("call ann 1000000 1"), "no line")
        self.assertEqual(desk.say("change 100000 1 1"), "no NoPlace")
        self.assertEqual(desk.say("change 1000000 1 1"), "no line")


class NoLine(DeskTest):
    def assert_no_line(self, line):
        book, desk = self.new_desk()
        ahead = seen_of(book)
        self.assertEqual(desk.say(line), "no line", repr(line)[:200])
        self.assertEqual((seen_of(book), book.log()), (ahead, ()))

    def test_the_lines_themselves_are_some(self):
        for line in LINES:
            book, desk = self.new_desk()
            self.assertNotEqual(desk.say(line), "no line", line)

    def test_too_few_and_too_many_words(self):
        for line in LINES:
            words = line.split(" ")
            for word in ("ann", "1", "-", ",", "x", "hide", ""):
                self.assert_no_line(line + " " + word)
                self.assert_no_line(word + " " + line)
            if len(words) > 1:
                self.assert_no_line(words[0])
                self.assert_no_line(" ".join(words[:-1]))
                self.assert_no_line(" ".join(words[1:]))
        for line in ("call ann 1", "call ann 1 0 0", "call 1 0", "whisper 1 0", "change 1 1", "change 1 0 1 1"):
            self.assert_no_line(line)

    def test_blanks_line_ends_and_capitals(self):
        for line in LINES:
            for other in (
                " " + line, line + " ", line + "\n", "\n" + line, line + "\t", line.replace(" ", "  "), line.upper(),
                line.replace(" ", "\t"), line.replace(" ", "\n"), line.title(), line + "\n" + line, line + ";",
                line + ".",
                line.replace(" ", "\u00a0"), line + "\r", line + "\x00",
            ):
                if other != line:
                    self.assert_no_line(other)

    def test_numbers(self):
        for number in (
            "00", "01", "007", "1000000", "0000000", "+1", "-1", "-0", "1.0", "1e1", "0x1", "1_0", "\u0661",
            "\u00b2", "a", "",
            "1,", "one", "9" * 5000, "~", "(1)", "1\n",
        ):
            for line in ("call ann {} 0", "call ann 0 {}", "change {} 1 1", "knows - {} 0", "come z 1 {}"):
                self.assert_no_line(line.format(number))

    def test_names(self):
        for name in (
            "Ann", "ann1", "annannann", "", "a-n", "a.n", "~", "ann;bob", "ann:", "\u00e4nn", "1", "ann\n", "*",
            "()", "ann\t",
        ):
            for line in ("call {} 1 0", "go {}", "come {} -", "whisper {} 1 0", "meet {}", "knows {} 1 0", "plan {}"):
                self.assert_no_line(line.format(name))
            for line in ("meet ann,{}", "whisper {},bob 1 0", "fewest ann,{},cy", "most {},cy", "knows ann,{} 0 0"):
                self.assert_no_line(line.format(name))
        for hands in ("ann, bob", "ann ,bob", "ann,,bob", ",ann", "ann,", ",", "ann bob", "ann,-", "ann;bob", "-"):
            for line in ("meet {}", "whisper {} 1 0", "fewest {}", "most {}", "plan {}", "call {} 1 0", "go {}"):
                self.assert_no_line(line.format(hands))
        self.assert_no_line("call ann,bob 1 0")
        self.assert_no_line("come dan,eli -")
        self.assert_no_line("go ann,bob")

    def test_rows(self):
        for rows in (
            "", ",", "- -", "1 0 ,", ", 1 0", "1 0 , , 0 1", "1 0, 0 1", "1 0 ,0 1", "1 0,0 1", "1 0 0 1", "1 0 , 0",
            "1 , 0",
            "1 0 , -", "- , 1 0", "1 0 -", "--", "1 0 ,  0 1", "1 0 , 0 1 ", "(1 0)", "1 0 ; 0 1", "1 0 , 0 1 , 1",
        ):
            self.assert_no_line("come dan " + rows)
        for row in ("-", "1 0 , 0 1", "1 ,", ", 0", "1,0", "1, 0", "1", "1 0 0", "- -"):
            for start in ("call ann", "whisper ann", "change 0", "knows ann", "knows -"):
                self.assert_no_line(f"{start} {row}")

    def test_what_is_no_text(self):
        for thing in (*odd_things(), 0, 1, *LONG_NUMBERS, ["hide"], ("hide",), {"hide": 1}, ("go", "ann"), LINES):
            self.assert_no_line(thing)

    def test_long_texts_and_other_words(self):
        for line in (
            "", " ", "-", ",", "done", "no", "hide" * 500, "hide " * 500, "a" * 2500, " " * 2500,
            "call ann" + " 1" * 1200,
            "tried", "stand", "names", "heard", "known", "log", "idle", "learned 0", "common ann,bob", "why ann 1 0",
            "HIDE",
            "fewest -", "hand", "opens", "knows", "no line", "call call", "behind ann 1 0", "shares ann,bob",
            "gain ann,bob",
        ):
            self.assert_no_line(line)
        book, desk = self.new_desk()
        self.assertEqual(desk.say("come dan " + " , ".join(["1 0"] * 400)), "no NoRow")
        self.assertEqual(desk.say("meet " + ",".join(["ann"] * 600)), "no NoGroup")
        self.assertEqual(desk.say("come dan " + " , ".join(["1 0"] * 8)), "done")

    def test_rows_of_as_many_numbers_as_are_hidden_now(self):
        book, desk = self.new_desk()
        for n in range(2, 9):
            for many in range(1, 10):
                row = " ".join(["0"] * many)
                self.assertEqual(desk.say(f"knows - {row}"), "yes" if many == n else "no line")
                self.assertEqual(desk.say(f"come ann {row}"), "no Taken" if many == n else "no line")
            self.assertEqual(desk.say("hide"), "done" if n < 8 else "no Full")


DEED_LINES = [line for line in LINES if line.split(" ")[0] not in ("knows", "fewest", "most", "plan", "hands", "open")]
WRONG_DEEDS = ("call zoe 9 9", "go zoe", "meet ann", "change 9 9 9", "come ann 9 9", "whisper bob,ann 9 9")


class BusyAndLong(DeskTest):
    def test_within_tell(self):
        book, desk = self.new_desk()
        seen = []

        def tell(told):
            ahead = (seen_of(told), told.log())
            for line in (*DEED_LINES, *WRONG_DEEDS):
                self.assertEqual(desk.say(line), "no Busy", line)
            self.assertEqual((seen_of(told), told.log()), ahead)
            for line in ("hide x", "back ", "call ann 1", None, "", "hide\n"):
                self.assertEqual(desk.say(line), "no line")
            seen.append([desk.say(line) for line in ("hands", "open", "fewest ann,bob", "most ann,bob", "knows - 1 0")])
            seen[-1].append(desk.say("fewest ann"))

        book.tried([("call", "ann", (1, 0)), ("whisper", ("bob",), (1, 0)), ("call", "bob", (0, 1))], tell=tell)
        self.assertEqual(seen, [
            ["ann bob cy", "1 0", "1", "0", "yes", "no NoGroup"], ["ann bob cy", "1 0", "1", "0", "yes", "no NoGroup"],
            ["ann bob cy", "1 0, 0 1", "0", "0", "yes", "no NoGroup"],
        ])
        self.assertEqual(len(book), 3)
        self.assertEqual(desk.say("hide"), "done")

    def test_a_number_hidden_within_tell(self):
        book, desk = self.new_desk()
        seen = []

        def tell(told):
            seen.append([desk.say("call ann 1 0"), desk.say("call ann 1 0 0"), desk.say("knows - 0 0 0")])

        book.tried([("hide",), ("hide",)], tell=tell)
        self.assertEqual(seen, [["no line", "no Busy", "yes"], ["no line", "no line", "no line"]])

    def test_busy_ahead_of_long(self):
        book, desk = self.new_desk()
        for _ in range(59):
            desk.say("call ann 1 0")
        book.tried([("hide",)], tell=lambda told: self.assertEqual(desk.say("go zoe"), "no Busy"))
        self.assertEqual(desk.say("go zoe"), "no Long")

    def test_behind_sixty_deeds(self):
        book, desk = self.new_desk()
        for _ in range(60):
            self.assertEqual(desk.say("call ann 2 0"), "done")
        ahead = seen_of(book)
        for line in (*DEED_LINES, *WRONG_DEEDS):
            if line != "back":
                self.assertEqual(desk.say(line), "no Long", line)
        self.assertEqual(desk.say("hide x"), "no line")
        self.assertEqual(desk.say("open"), "1 0")
        self.assertEqual(desk.say("fewest ann,zoe"), "no NoHand")
        self.assertEqual(seen_of(book), ahead)
        self.assertEqual(desk.say("back"), "done")
        self.assertEqual(desk.say("go cy"), "done")
        self.assertEqual(desk.say("go cy"), "no Long")


class Plans(DeskTest):
    def test_said_back_line_by_line(self):
        rng, many = random.Random(243), 0
        for _ in range(60):
            model = drawn_model(rng, rng.choice((5, 7, 101)), rng.randrange(1, 9), rng.randrange(2, 7))
            book = Book(model.p, model.moments[0][0], first_hands(model))
            desk = Desk(book)
            hands = ",".join(sorted(rng.sample(book.names(), rng.randrange(2, len(book.names()) + 1))))
            told, most = desk.say(f"plan {hands}"), desk.say(f"most {hands}")
            self.assertEqual(told, desk.say(f"plan {hands}"))
            self.assertEqual(desk.say(f"fewest {hands}"), str(len(calls_in(told))))
            for call in told.split(", ") if told != "-" else ():
                self.assertEqual(desk.say(f"call {call}"), "done")
                many += 1
            self.assertEqual(desk.say(f"plan {hands}"), "-")
            self.assertEqual(desk.say(f"fewest {hands}"), "0")
            self.assertEqual(desk.say(f"most {hands}"), most)
        self.assertGreater(many, 60)


if __name__ == "__main__":
    unittest.main()
