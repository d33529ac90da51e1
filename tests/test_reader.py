"""Promises [12] and [13], and of [14] what it says of texts that are read again."""

import random
import re
import unittest

from centsatonce.lexer import marks_of
from centsatonce.printer import show_day, show_fraction, show_lines, show_sequence, show_table
from centsatonce.reader import completed_day, completed_fraction, completed_lines, completed_sequence, completed_table
from centsatonce.reader import read_day, read_fraction, read_lines, read_sequence, read_table
from centsatonce.tables import Table
from tests import plain_reader
from tests.helpers import NAMES, odd_values, raised, random_fraction, random_lines, random_tables, rounded

TABLE = Table(("a", "kinds", "total"), ((0, 1), (2,)))
DAY_TABLE = Table(("cup", "jam", "tea"), ((0, 2), (), (1,)))
WHOLES = ["- " * (sign < 0) + str(number) for number in range(10) for sign in (1, -1)]
TAILS = {
    "fraction": ["", "1"],
    "table": ["", "kinds a", "a"],
    "lines": ["", "1"],
    "day": [""] + WHOLES + [one + " = " + whole for one in ("", "1") for whole in WHOLES],
    "sequence": [""],
}


def readers(table):
    """For each kind of text: what reads it, what completes it, and what reads it plainly."""
    return {
        "fraction": (read_fraction, completed_fraction, plain_reader.read_fraction),
        "table": (read_table, completed_table, plain_reader.read_table),
        "lines": (lambda text: read_lines(table, text), lambda text: completed_lines(table, text),
                  lambda text: plain_reader.read_lines(table, text)),
        "day": (lambda text: read_day(table, text), lambda text: completed_day(table, text),
                lambda text: plain_reader.read_day(table, text)),
        "sequence": (lambda text: read_sequence(table, text), lambda text: completed_sequence(table, text),
                     lambda text: plain_reader.read_sequence(table, text)),
    }


def plainly(read, text):
    """What is read, None if it is no such text."""
    try:
        return read(text)
    except (AssertionError, IndexError, ValueError):
        return None


def places_of_marks(text):
    """The line, the place and the end in the text of each mark."""
    found, begin = [], 0
    for line, row in enumerate(text.split("\n")):
        found.extend((line, mark.start(), begin + mark.end()) for mark in re.finditer("[a-z]+|[0-9]+|[^ ]", row))
        begin += len(row) + 1
        if begin <= len(text):
            found.append((line, len(row), begin))
    return found


def expected_fault(word, read, text):
    """The line and the place that are to be told of a text, None if it is one."""
    for line, at, end in places_of_marks(text):
        if all(plainly(read, text[:end] + " " + tail) is None for tail in TAILS[word]):
            return (line, at)
    if plainly(read, text) is None:
        return (text.count("\n"), len(text) - text.rfind("\n") - 1)
    return None


def fault(line, at):
    return ("InvalidText", {"line": line, "at": at})


class Reading(unittest.TestCase):

    def check(self, word, table, text):
        read, complete, plain = readers(table)[word]
        expected = expected_fault(word, plain, text)
        if expected is None:
            found = read(text)
            self.assertEqual((found.kinds, found.totals) if word == "table" else found, plain(text))
            self.assertEqual(complete(text), text)
            return "read"
        self.assertEqual(raised(read, text), fault(*expected), (word, text))
        refused = [end for line, at, end in places_of_marks(text) if (line, at) == expected]
        if refused and all(plainly(plain, text[:refused[0]] + " " + tail) is None for tail in TAILS[word]):
            self.assertEqual(raised(complete, text), fault(*expected))
            return "refused"
        whole = complete(text)
        self.assertTrue(whole.startswith(text))
        self.assertEqual(marks_of(whole)[:len(marks_of(text))], marks_of(text))
        self.assertIsNotNone(plainly(plain, whole))
        self.assertIsNone(raised(read, whole))
        return "cut"

    def own_text(self, rng, word):
        """Some text of a kind, as marks."""
        def amount():
            top = rng.choice(["- "] * (rng.random() < 0.4) + [""]) + str(rng.randint(1, 9))
            return top + (" / " + str(rng.randint(1, 4)) if rng.random() < 0.5 else "")
        if word == "fraction":
            return amount()
        names = ["a", "kinds", "total"]
        if word == "sequence":
            return " ".join(rng.choice(names) for _ in range(rng.randint(0, 4)))
        rows = []
        if word == "table":
            rows.append("kinds " + " ".join(rng.sample(names, rng.randint(1, 3))))
            for _ in range(rng.randint(0, 3)):
                own = rows[0].split()[1:]
                rows.append("total " + " ".join(rng.sample(own, rng.randint(0, len(own)))))
        else:
            for _ in range(rng.randint(0, 3)):
                row = amount()
                if word == "day":
                    exact = plain_reader.read_fraction(row)
                    whole = exact[0] // exact[1] + (rng.randint(0, 1) if exact[1] > 1 else 0)
                    row += " = " + ("- " if whole < 0 else "") + str(abs(whole))
                rows.append(rng.choice(names) + " " + row)
        for _ in range(rng.randint(0, 2)):
            rows.insert(rng.randint(0, len(rows)), "")
        return "\n".join(rows)

    def spoilt(self, rng, text):
        """A text some of whose marks are other ones, and with other blanks."""
        marks = re.findall("[a-z]+|[0-9]+|\n|[^ ]", text)
        others = ["a", "b", "kinds", "total", "0", "1", "2", "01", "1000001", "-", "/", "=", "\n", "A", "+", "abcdefg"]
        for _ in range(rng.choice((0, 0, 1, 1, 2))):
            at = rng.randint(0, len(marks))
            if rng.random() < 0.5:
                marks.insert(at, rng.choice(others))
            elif marks[at:]:
                marks[at:at + 1] = rng.choice(([], [rng.choice(others)], marks[at:at + 1] * 2))
        if rng.random() < 0.5:
            marks = marks[:rng.randint(0, len(marks))]
        text = " " * rng.randint(0, 1)
        for mark in marks:
            tight = rng.random() < 0.5 and not (text[-1:].isalpha() and mark.isalpha())
            tight = tight and not (text[-1:].isdigit() and mark.isdigit())
            text += ("" if tight else " " * rng.randint(1, 3)) + mark
        return text + " " * rng.randint(0, 1)

    def test_all_kinds_of_texts(self):
        rng = random.Random(1)
        for word in TAILS:
            seen = {}
            for _ in range(1200):
                result = self.check(word, TABLE, self.spoilt(rng, self.own_text(rng, word)))
                seen[result] = seen.get(result, 0) + 1
            self.assertEqual(set(seen), {"read", "refused"} | ({"cut"} if word != "sequence" else set()))
            self.assertGreater(min(seen.values()), 40, (word, seen))

    def test_all_short_rows_of_marks(self):
        some = {"fraction": ["-", "0", "1", "6", "/", "\n", "a"], "lines": ["a", "b", "-", "0", "2", "/", "\n", "="],
                "day": ["a", "-", "0", "1", "2", "/", "\n", "="], "table": ["kinds", "total", "a", "b", "\n", "1"],
                "sequence": ["a", "kinds", "b", "\n", "1"]}
        for word, marks in some.items():
            rows = [[]]
            while rows:
                row = rows.pop()
                text = " ".join(row)
                if self.check(word, TABLE, text) != "refused" and len(row) < (5 if word == "fraction" else 4):
                    rows.extend(row + [mark] for mark in marks)

    def test_every_beginning(self):
        rng = random.Random(2)
        for word in TAILS:
            for _ in range(25):
                text = self.own_text(rng, word)
                for end in range(len(text) + 1):
                    self.check(word, TABLE, text[:end])

    def test_examples(self):
        table = read_table("\nkinds tea cup jam\ntotal tea cup\n\ntotal\ntotal jam")
        self.assertEqual((table.kinds, table.totals), (("cup", "jam", "tea"), ((0, 2), (), (1,))))
        self.assertEqual((read_fraction("-6/4"), read_day(table, "tea 7/2 = 4\n\njam -1/3 = -1"),
                          read_sequence(table, "tea tea cup")), ((-3, 2), ((2, (7, 2), 4), (1, (-1, 3), -1)), (2, 2, 0)))
        self.assertEqual(read_lines(text="tea 6/4\n", table=table), ((2, (3, 2)),))
        self.assertEqual((read_lines(table, ""), read_day(table, "\n \n"), read_sequence(table, "  ")), ((), (), ()))
        self.assertEqual(read_fraction(text=" - 6 / 4 "), (-3, 2))
        self.assertEqual(read_sequence(text="jam", table=table), (1,))
        self.assertEqual(read_day(text="jam 1=1", table=table), ((1, (1, 1), 1),))
        self.assertEqual(completed_sequence(text="jam", table=table), "jam")
        self.assertEqual(read_day(table, completed_day(text="jam -7/2", table=table))[0][:2], (1, (-7, 2)))
        self.assertEqual(read_lines(table, completed_lines(text="jam -7/2", table=table)), ((1, (-7, 2)),))
        self.assertEqual(read_table(completed_table(text="kinds b a")), Table(("a", "b"), ()))

    def test_days_kept_or_not(self):
        one = Table(("cup",), ((0,),))
        self.assertEqual(read_day(one, "cup 1/2 = 1\ncup 1/2 = 1"), ((0, (1, 2), 1),) * 2)
        self.assertEqual(read_day(one, "cup 1/2=1\ncup 0=0\ncup -1/2=0"), ((0, (1, 2), 1), (0, (0, 1), 0), (0, (-1, 2), 0)))


class Edges(unittest.TestCase):

    def test_numerals(self):
        for text, one in (("0", (0, 1)), ("1000000", (10 ** 6, 1)), ("-1000000/1000000", (-1, 1)), ("0/7", (0, 1)),
                          ("999999/1000000", (999999, 10 ** 6)), ("1/1", (1, 1)), ("10/4", (5, 2))):
            self.assertEqual(read_fraction(text), one)
        for text, at in (("1000001", 0), ("-1000001", 1), ("1/1000001", 2), ("00", 0), ("01", 0), ("-0", 1), ("-0/3", 1),
                         ("-00", 1), ("1/0", 2), ("1/01", 2), ("1/00", 2), ("--1", 1), ("1/-2", 2), ("+1", 0), ("1 1", 2),
                         ("1/2/3", 3), ("1/2 3", 4), ("1.5", 1), ("a", 0), ("1a", 1), ("/2", 0), ("1\n", 1), ("\n1", 0),
                         ("9" * 5000, 0), ("1/" + "9" * 5000, 2), ("0" * 5000, 0), ("1=1", 1)):
            self.assertEqual(raised(read_fraction, text), fault(0, at))
            self.assertEqual(raised(completed_fraction, text), fault(0, at))
            row = "tea " + text.strip("\n")
            for read in (read_lines, read_day, completed_lines, completed_day):
                if "\n" not in text and text != "1=1":
                    self.assertEqual(raised(read, DAY_TABLE, "\n" + row), fault(1, at + 4))
        self.assertEqual(raised(read_lines, DAY_TABLE, "tea 1=1"), fault(0, 5))

    def test_cut_short(self):
        for text, at in (("", 0), ("  ", 2), ("-", 1), ("- ", 2), ("1/", 2), ("-1/ ", 4)):
            self.assertEqual(raised(read_fraction, text), fault(0, at))
            self.assertTrue(completed_fraction(text).startswith(text))
        for text, line, at in (("", 0, 0), ("\n\n ", 2, 1), ("kinds", 0, 5), (" kinds  ", 0, 8), ("\nkinds", 1, 5)):
            self.assertEqual(raised(read_table, text), fault(line, at))
            self.assertIsInstance(read_table(completed_table(text)), Table)
        for text, line, at in (("tea", 0, 3), ("tea -", 0, 5), ("tea 1/ ", 0, 7), ("tea 1\n\njam", 2, 3)):
            self.assertEqual(raised(read_lines, DAY_TABLE, text), fault(line, at))
            self.assertTrue(completed_lines(DAY_TABLE, text).startswith(text))
        for text, line, at in (("tea", 0, 3), ("tea 1", 0, 5), ("tea 1/2 =", 0, 9), ("tea -3/2= -", 0, 11),
                               ("tea 1=1\ntea -", 1, 5), ("tea 3/", 0, 6)):
            self.assertEqual(raised(read_day, DAY_TABLE, text), fault(line, at))
            self.assertTrue(completed_day(DAY_TABLE, text).startswith(text))

    def test_kinds(self):
        names = list(NAMES)
        full = "kinds " + " ".join(names)
        self.assertEqual(read_table(full).kinds, NAMES)
        self.assertEqual(raised(read_table, full + " zoo"), fault(0, len(full) + 1))
        self.assertEqual(raised(completed_table, full + " zoo\n"), fault(0, len(full) + 1))
        self.assertEqual(raised(read_table, full + " " + names[3]), fault(0, len(full) + 1))
        for text, line, at in (("kinds\n", 0, 5), ("\n kinds \na", 1, 7), ("kinds a a", 0, 8), ("kinds abcdefg", 0, 6),
                               ("kinds A", 0, 6), ("kinds 1", 0, 6), ("kind a", 0, 0), ("total a", 0, 0), ("a", 0, 0),
                               ("kinds a\nkinds b", 1, 0), ("kinds a\na", 1, 0), ("kinds a\ntotal b", 1, 6),
                               ("kinds a\ntotal a a", 1, 8), ("kinds a\ntotals", 1, 0), ("kinds a total a", 0, 14),
                               ("kinds a\ntotal kinds", 1, 6), ("kinds a,b", 0, 7), ("kindsa", 0, 0)):
            self.assertEqual(raised(read_table, text), fault(line, at))
            self.assertEqual(raised(completed_table, text), fault(line, at))
        self.assertEqual(read_table("kinds abcdef").kinds, ("abcdef",))

    def test_kinds_called_like_words(self):
        table = read_table("kinds total kinds\ntotal total\ntotal kinds total\n\ntotal")
        self.assertEqual((table.kinds, table.totals), (("kinds", "total"), ((1,), (0, 1), ())))
        self.assertEqual(read_table("kinds kinds").kinds, ("kinds",))
        self.assertEqual(raised(read_table, "kinds kinds kinds"), fault(0, 12))
        self.assertEqual(read_sequence(table, "total kinds total"), (1, 0, 1))
        self.assertEqual(read_lines(table, "total 1\nkinds 2"), ((1, (1, 1)), (0, (2, 1))))
        self.assertEqual(read_day(table, "total 1/2=0"), ((1, (1, 2), 0),))

    def test_totals(self):
        text = "kinds a\n" + "total\ntotal a\n" * 6
        self.assertEqual(read_table(text).totals, ((), (0,)) * 6)
        self.assertEqual(read_table(text + "\n \n\n").totals, ((), (0,)) * 6)
        self.assertEqual(raised(read_table, text + "\n total"), fault(14, 1))
        self.assertEqual(raised(completed_table, text + "total"), fault(13, 0))

    def test_four_hundred(self):
        rows = "tea 1=1\n\n" * 400
        self.assertEqual(len(read_day(DAY_TABLE, rows)), 400)
        self.assertEqual(completed_day(DAY_TABLE, rows), rows)
        self.assertEqual(raised(read_day, DAY_TABLE, rows + " cup 1=1"), fault(800, 1))
        self.assertEqual(raised(completed_day, DAY_TABLE, rows + "zoo"), fault(800, 0))
        rows = "\n".join(["tea 1/2"] * 400)
        self.assertEqual(read_lines(DAY_TABLE, rows), ((2, (1, 2)),) * 400)
        self.assertEqual(read_lines(DAY_TABLE, rows + "\n\n"), ((2, (1, 2)),) * 400)
        self.assertEqual(raised(read_lines, DAY_TABLE, rows + "\n\ncup"), fault(401, 0))
        self.assertEqual(raised(read_lines, DAY_TABLE, rows[:-8] + "\ncup"), fault(399, 3))
        text = "tea " * 400
        self.assertEqual(read_sequence(DAY_TABLE, text), (2,) * 400)
        self.assertEqual(raised(read_sequence, DAY_TABLE, text + "cup"), fault(0, 1600))
        self.assertEqual(raised(completed_sequence, DAY_TABLE, text + "cup"), fault(0, 1600))

    def test_wholes(self):
        for amount, rights in (("7/2", ("3", "4")), ("-7/2", ("-4", "-3")), ("-1/2", ("-1", "0")), ("1/2", ("0", "1")),
                               ("4/2", ("2",)), ("-4/2", ("-2",)), ("0", ("0",)), ("0/5", ("0",)), ("-1/3", ("-1", "0")),
                               ("1000000", ("1000000",)), ("-1000000", ("-1000000",))):
            for whole in [str(number) for number in range(-9, 10)] + ["1000000", "-1000000", "-0", "00", "03"]:
                text = "tea " + amount + " = " + whole
                if whole in rights:
                    self.assertEqual(read_day(DAY_TABLE, text)[0][2], int(whole))
                    continue
                begin = len(text) - len(whole)
                negative = any(right.startswith("-") for right in rights)
                at = begin + 1 if whole.startswith("-") and negative else begin
                self.assertEqual(raised(read_day, DAY_TABLE, text), fault(0, at), text)
                self.assertEqual(raised(completed_day, DAY_TABLE, text), fault(0, at), text)
            self.assertEqual(raised(read_day, DAY_TABLE, "tea " + amount + " = " + rights[0] + " 1"),
                             fault(0, len("tea " + amount + " = " + rights[0] + " ")))
        self.assertEqual(raised(read_day, DAY_TABLE, "tea 1=1=1"), fault(0, 7))
        self.assertEqual(raised(read_day, DAY_TABLE, "tea 1\n=1"), fault(0, 5))
        self.assertEqual(raised(read_day, DAY_TABLE, "tea 1=\n1"), fault(0, 6))

    def test_names(self):
        for text, at in (("zoo", 0), ("te", 0), ("teacup", 0), ("tea zoo", 4), ("Tea", 0), ("1", 0), ("tea\ncup", 3)):
            self.assertEqual(raised(read_sequence, DAY_TABLE, text), fault(0, at))
        for text, at in (("zoo 1", 0), ("tea cup 1", 4), ("1 tea", 0), ("= 1", 0), ("tea 1 cup 2", 6), ("tea\n1", 3)):
            for read in (read_lines, read_day, completed_lines, completed_day):
                self.assertEqual(raised(read, DAY_TABLE, text), fault(0, at))

    def test_any_value(self):
        for value in odd_values() + [b"", b"1", 1, ("1",), ["kinds a"]]:
            if isinstance(value, str):
                continue
            for read in (read_fraction, read_table, completed_fraction, completed_table):
                self.assertEqual(raised(read, value), fault(-1, -1))
            for read in (read_lines, read_day, read_sequence, completed_lines, completed_day, completed_sequence):
                self.assertEqual(raised(read, DAY_TABLE, value), fault(-1, -1))

    def test_long_texts(self):
        text = "\n" * 20000 + "kinds a" + "\n" * 20000
        self.assertEqual(read_table(text), Table(("a",), ()))
        self.assertEqual(raised(read_lines, DAY_TABLE, "\n" * 20000 + "?"), fault(20000, 0))
        self.assertEqual(raised(read_sequence, DAY_TABLE, " " * 100000 + "x" * 100000), fault(0, 100000))


class Shown(unittest.TestCase):

    def test_read_again(self):
        rng = random.Random(3)
        for _ in range(1000):
            one = random_fraction(rng, 10 ** 6, (1, 2, 3, 97, 10 ** 6))
            self.assertEqual(read_fraction(show_fraction(one)), one)
        for table in random_tables(13, 150):
            self.assertEqual(read_table(show_table(table)), table)
            lines = random_lines(rng, table, rng.randint(0, 9), 300)
            day, sequence = rounded(rng, lines), tuple(kind for kind, _ in lines)
            self.assertEqual(read_lines(table, show_lines(table, lines)), lines)
            self.assertEqual(read_day(table, show_day(table, day)), day)
            self.assertEqual(read_sequence(table, show_sequence(table, sequence)), sequence)

    def test_no_other_text_has_fewer_marks(self):
        rng = random.Random(4)
        seen = 0
        maker = Reading()
        for word, show in (("fraction", show_fraction), ("table", show_table), ("lines", None), ("day", None),
                           ("sequence", None)):
            shows = {"lines": show_lines, "day": show_day, "sequence": show_sequence}
            read = readers(TABLE)[word][0]
            for _ in range(600):
                text = maker.spoilt(rng, maker.own_text(rng, word))
                if raised(read, text) is None:
                    thing = read(text)
                    shown = show(thing) if show else shows[word](TABLE, thing)
                    self.assertLessEqual(len(marks_of(shown)), len(marks_of(text)))
                    self.assertEqual(read(shown), thing)
                    seen += len(marks_of(shown)) < len(marks_of(text))
        self.assertGreater(seen, 100)

    def test_four_hundred_lines(self):
        rng = random.Random(5)
        table = Table(NAMES, ())
        lines = tuple((rng.randrange(12), random_fraction(rng, 10 ** 6, (1, 7, 999983, 10 ** 6))) for _ in range(400))
        day = rounded(rng, lines)
        self.assertEqual(read_day(table, show_day(table, day)), day)
        self.assertEqual(read_lines(table, show_lines(table, lines)), lines)


if __name__ == "__main__":
    unittest.main()
