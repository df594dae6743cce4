"""Point 22: the texts of rows and stands, there and back."""

import random
import re
import unittest

from opencalls.errors import NoText
from opencalls.texts import read_row, read_stand, row_text, stand_text
from things import (
    LONG_NUMBERS, Asking, bent, drawn_row, drawn_stands, is_rests, is_right_stand, odd_things, only_tuples,
    pooled_stand, quiet_stand,
)

NUMBER = "(?:0|[1-9][0-9]*)"
ROW = f"{NUMBER}(?: {NUMBER})*"
# Signs to put in and to exchange for: among them other figures, other blanks, and line ends of other kinds.
SIGNS = (*" 019-+_,.\n\t\raA~", "\x0b", "\u00a0", "\u0663", "\u00b2")
STAND = (5, 3, ((1, 0, 2),), (("ann", ((1, 0, 2),)), ("bob", ((1, 0, 2), (0, 1, 3))), ("open", ((1, 0, 0), (0, 0, 1)))))
STAND_TEXT = "5 3\nopen 1 0 2\nann 1 0 2\nbob 1 0 2, 0 1 3\nopen 1 0 0, 0 0 1"


def row_by(p, n, text):
    """The row of the text, or None, by the words of point 22."""
    if type(text) is not str or re.fullmatch(ROW, text) is None:
        return None
    row = tuple(int(part) for part in text.split(" "))
    return row if is_rests(p, n, row) else None


def stand_by(text):
    """The stand of the text, or None, by the words of point 22."""
    if type(text) is not str or re.match(f"{NUMBER} {NUMBER}\nopen( |\n)", text) is None:
        return None
    first, *lines = text.split("\n")
    pairs = []
    for line in lines:
        if re.fullmatch(f"[a-z]+( {ROW}(, {ROW})*)?", line) is None:
            return None
        name, *rest = line.split(" ", 1)
        pairs.append((name, tuple(tuple(map(int, row.split(" "))) for row in rest[0].split(", ")) if rest else ()))
    if re.fullmatch(f"{NUMBER} {NUMBER}", first) is None:
        return None
    stand = (*map(int, first.split(" ")), pairs[0][1], tuple(pairs[1:]))
    return stand if is_right_stand(stand) else None


def bent_texts(text):
    """The text with a sign put in, left out or exchanged, at each place."""
    for at in range(len(text) + 1):
        for sign in SIGNS:
            yield text[:at] + sign + text[at:]
            yield text[:at] + sign + text[at + 1:]
        yield text[:at] + text[at + 1:]
        yield text[:at]
        yield text[at:]
        yield text[:at] + text[at:at + 1] + text[at:]


class TextTest(Asking):
    def assert_no_text(self, function, *things):
        before = repr(things)
        for _ in range(2):
            self.assertRaises(NoText, function, *things)
        self.assertEqual(repr(things), before)


class Rows(TextTest):
    def judge(self, p, n, thing):
        row = row_by(p, n, thing)
        if row is None:
            self.assert_no_text(read_row, p, n, thing)
        else:
            self.assertEqual(self.ask(read_row, p, n, thing), row)

    def test_there_and_back(self):
        rng = random.Random(231)
        for p in (5, 7, 31, 101):
            for n in range(1, 9):
                for row in [drawn_row(rng, p, n) for _ in range(5)] + [(0,) * n, (p - 1,) * n]:
                    text = self.ask(row_text, row)
                    self.assertIs(type(text), str)
                    self.assertEqual(text, str(row)[1:-1].rstrip(",").replace(",", ""))
                    told = self.ask(read_row, p, n, text)
                    self.assertTrue(told == row and is_rests(p, n, told))

    def test_other_lengths_and_primes(self):
        for p in (5, 7, 101):
            for n in range(1, 9):
                for many in range(10):
                    for rest in (0, 4, 5, 6, 7, 100, 101):
                        self.judge(p, n, " ".join([str(rest)] * many))

    def test_bent_at_each_sign(self):
        for p, text in ((5, "0"), (5, "1 0 4"), (101, "100 0 17 3"), (11, "10 10 1 2 3 4 5 6")):
            for other in bent_texts(text):
                for n in {1, len(text.split(" ")), len(text.split(" ")) + 1}:
                    self.judge(p, n, other)

    def test_noughts_signs_and_blanks(self):
        for text in (
            "01 2", "1 02", "00 1", "1 2 ", " 1 2", "1  2", "+1 2", "-1 2", "1\t2", "1\n2", "1 2\n", "1,2", "1, 2",
            "1_0 2", "1 5", "1.0 2", "1 2 3", "1", "", " ", "a b", "1 \u0662", "\u00b9 2", "0x1 2", "1 -0", "(1, 2)",
            "1 2" + " " * 2000,
        ):
            self.assert_no_text(read_row, 5, 2, text)

    def test_long_texts(self):
        for text in ("1" * 2500, "0" * 2500, "1 " * 1250, " " * 2500, "1" + " 0" * 1249, "9" * 5000, "1 " + "1" * 2498):
            for n in (1, 2, 8):
                self.assert_no_text(read_row, 5, n, text)

    def test_things_of_any_kind(self):
        for thing in (*odd_things(), 0, 1, *LONG_NUMBERS, (1, 2), [1, 2], ["1", "2"], "1 2", "3"):
            for n in (1, 2, 3):
                self.judge(5, n, thing)


class Stands(TextTest):
    def judge(self, thing):
        stand = stand_by(thing)
        if stand is None:
            self.assert_no_text(read_stand, thing)
        else:
            self.assertEqual(self.ask(read_stand, thing), stand)
            self.assertEqual(stand_text(stand), thing)

    def test_there_and_back(self):
        for rng, drawn in drawn_stands(232, 1):
            p, n, many = drawn[0], drawn[1], len(drawn[3])
            for stand in (drawn, quiet_stand(rng, p, n, many), pooled_stand(rng, p, n, many)):
                text = self.ask(stand_text, stand)
                self.assertIs(type(text), str)
                self.assertEqual(stand_by(text), stand)
                self.assertEqual(len(text.split("\n")), 2 + many)
                told = self.ask(read_stand, text)
                self.assertTrue(told == stand and only_tuples(told))

    def test_by_hand(self):
        self.assertEqual(stand_text(STAND), STAND_TEXT)
        self.assertEqual(read_stand(STAND_TEXT), STAND)
        stand = (101, 1, (), (("a", ()), ("b", ((1,),))))
        self.assertEqual(stand_text(stand), "101 1\nopen\na\nb 1")
        self.assertEqual(read_stand("101 1\nopen\na\nb 1"), stand)

    def test_hands_named_open(self):
        stand = (5, 1, (), (("ann", ()), ("open", ((1,),))))
        self.assertEqual(self.ask(stand_text, stand), "5 1\nopen\nann\nopen 1")
        self.assertEqual(self.ask(read_stand, "5 1\nopen\nann\nopen 1"), stand)
        for text in ("5 1\nann\nopen\nopen 1", "5 1\nopen\nopen 1\nann", "5 1\nopen\nopen\nopen", "5 1\nopen 1\nopen"):
            self.assert_no_text(read_stand, text)

    def test_bent_at_each_sign(self):
        for text in (STAND_TEXT, "101 1\nopen\na\nb 1", "7 2\nopen\nann 1 0\nbob 1 6\ncy 1 0, 0 1"):
            for other in bent_texts(text):
                self.judge(other)

    def test_drawn_ones_bent_at_some_signs(self):
        for rng, stand in drawn_stands(233, 1, (5, 101)):
            texts = list(bent_texts(stand_text(stand)))
            for text in rng.sample(texts, min(len(texts), 60)):
                self.judge(text)

    def test_lines_exchanged_twice_and_left_out(self):
        for rng, stand in drawn_stands(234, 1, (5, 31)):
            lines = stand_text(stand).split("\n")
            for at in range(len(lines)):
                for other in range(len(lines)):
                    changed = list(lines)
                    changed[at], changed[other] = changed[other], changed[at]
                    self.judge("\n".join(changed))
                self.judge("\n".join(lines[:at] + lines[at + 1:]))
                self.judge("\n".join(lines[:at + 1] + lines[at:]))
                self.judge("\n".join(lines[:at] + [""] + lines[at:]))
                self.judge("\n".join(lines[:at] + [lines[at].upper()] + lines[at + 1:]))
                self.judge("\n".join(lines[:at] + [lines[at] + ", " + " ".join("0" * stand[1])] + lines[at + 1:]))

    def test_names(self):
        for name in ("Bob", "bob1", "b b", "b,b", "bobbobbob", "", "b-b", "\u00fc", "ann", "aaa", "BOB", "bob\t", "1"):
            self.assert_no_text(read_stand, f"5 1\nopen\nann\n{name} 1")
        for name in ("bob", "b", "bobbobbo", "open"):
            self.assertEqual(read_stand(f"5 1\nopen\nann\n{name} 1")[3][1][0], name)
        for many in range(10):
            self.judge("\n".join(["5 1", "open", *"abcdefghij"[:many]]))

    def test_rooms(self):
        for room in (
            " 2 0 4", " 0 1 3, 1 0 2", " 1 0 2, 1 0 2", " 1 0 2, 0 0 0", " 1 0 2,0 1 3", " 1 0 2 , 0 1 3", " 1 0 2, ",
            " ", " 1 0 2,", " 0 1 0", " 1 0 1", " 1 0", " 1 0 2 0", " 1 0 7", " 1 0 2; 0 1 3", " ,", " -", "",
        ):
            self.assert_no_text(read_stand, f"5 3\nopen 1 0 2\nann 1 0 2\nbob{room}")
        for known in (" 2 0 4", " 0 1 0", " 1 0 2, 0 1 3", " 1 0 7", " ", " -"):
            self.assert_no_text(read_stand, f"5 3\nopen{known}\nann 1 0 2\nbob 1 0 2, 0 1 3")
        self.assertEqual(read_stand("5 3\nopen\nann 1 0 2\nbob")[2], ())

    def test_p_and_n(self):
        for p in (*range(12), 97, 99, 100, 101, 103, 1009):
            for n in range(11):
                self.judge(f"{p} {n}\nopen\nann\nbob")
        for first in ("5", "5 3 1", "", "5,3", "5 3 ", " 5 3", "05 3", "5 03", "5 +3", "p n", "5.0 3", "5 " + "3" * 99):
            self.assert_no_text(read_stand, f"{first}\nopen\nann\nbob")

    def test_long_texts(self):
        for text in (
            "\n" * 2500, "5 3\nopen" + " 1 0 2," * 300, "5 1\n" + "open\n" * 480, "a" * 2500, "1" * 5000, " " * 2500,
        ):
            self.assert_no_text(read_stand, text)
        whole = " " + ", ".join(" ".join("1" if at == k else "0" for at in range(8)) for k in range(8))
        text = "\n".join(["101 8", "open", *[name * 8 + whole for name in "abcdef"]])
        self.assertEqual(stand_text(self.ask(read_stand, text)), text)

    def test_things_of_any_kind(self):
        for thing in (*odd_things(), 0, *LONG_NUMBERS, STAND, STAND_TEXT.split("\n"), [STAND_TEXT], (STAND_TEXT,)):
            self.assert_no_text(read_stand, thing)
        for thing in bent(STAND):
            if not is_right_stand(thing):
                self.assert_no_text(read_stand, thing)


if __name__ == "__main__":
    unittest.main()
