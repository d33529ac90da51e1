"""Promises [81] and [82], with [12] and [14]: commands and their texts."""

import random
import unittest

from centsatonce.commands import is_command, read_commands, show_command, show_commands
from tests.helpers import NAMES, Rude, Yes, deep_tuple, odd_values, raised, random_fraction, with_swapped

MILLION = 10 ** 6
SOME = (
    ("line", "tea", (7, 2)), ("line", "line", (-MILLION, 999999)), ("line", "a", (0, 1)), ("total", ()),
    ("total", ("tea", "cup", "tea")), ("drop", 0), ("drop", 12), ("kind", "pie", ()), ("kind", "pie", (12, 0, 0)),
    ("name", "tea", "tea"), ("name", "errors", "may"), ("errors",), ("may", "abcdef", (1, MILLION), -MILLION),
    ("may", "tea", (-1, 2), 0), ("may", "tea", (3, 1), MILLION), ("add", ()), ("add", ("a", "b", "c") * 9),
)
TEXTS = (
    "line tea 7/2", "line line -1000000/999999", "line a 0", "total", "total tea cup tea", "drop 0", "drop 12", "kind pie",
    "kind pie 12 0 0", "name tea tea", "name errors may", "errors", "may abcdef 1/1000000 -1000000", "may tea -1/2 0",
    "may tea 3 1000000", "add", "add " + " ".join(["a", "b", "c"] * 9),
)


def random_command(rng):
    name, other = rng.choice(NAMES), rng.choice(NAMES)
    amount = random_fraction(rng, rng.choice((3, 1000, MILLION)), (1, 2, 3, 97, MILLION))
    names = tuple(rng.choice(NAMES) for _ in range(rng.randint(0, 5)))
    numbers = tuple(rng.randint(0, 12) for _ in range(rng.randint(0, 4)))
    return rng.choice((("line", name, amount), ("total", names), ("drop", rng.randint(0, 12)), ("kind", name, numbers),
                       ("name", name, other), ("errors",), ("may", name, amount, rng.randint(-MILLION, MILLION)),
                       ("add", names)))


def text_fault(text):
    """The line and the place of the fault that read_commands raises, None if there is none."""
    fault = raised(read_commands, text)
    if fault is None:
        return None
    assert fault[0] == "InvalidText", fault
    return fault[1]["line"], fault[1]["at"]


class AnyValue(unittest.TestCase):

    def test_commands(self):
        for command in SOME:
            self.assertIs(is_command(command), True, command)
        self.assertIs(is_command(value=("errors",)), True)

    def test_wrong_length(self):
        for command in SOME:
            self.assertIs(is_command(command[:-1]), False)
            for more in (None, 0, "tea", (), command[-1]):
                self.assertIs(is_command(command + (more,)), False)
            self.assertIs(is_command(list(command)), False)

    def test_words(self):
        for word in ("lines", "Line", "line ", "", "test", "undo", b"line", None, 0, True, Rude(), Yes(), ("line",), ["line"]):
            for command in SOME:
                self.assertIs(is_command((word,) + command[1:]), False)
            self.assertIs(is_command(word), False)

    def test_names(self):
        for name in ("", "seventy", "Tea", "te a", "tea\n", "te1", "-", b"tea", None, 1, True, ("tea",), ["tea"], Rude(), Yes()):
            for command in (("line", name, (1, 2)), ("kind", name, ()), ("name", name, "tea"), ("name", "tea", name),
                            ("may", name, (1, 2), 0), ("total", (name,)), ("add", ("tea", name)), ("total", ("tea", name, "a"))):
                self.assertIs(is_command(command), False)
        for length in range(1, 7):
            for command in (("line", "z" * length, (1, 2)), ("kind", "a" * length, ()), ("name", "tea", "b" * length)):
                self.assertIs(is_command(command), True)

    def test_amounts(self):
        for amount in ((2, 4), (0, 2), (1, 0), (1, -2), (MILLION + 1, 1), (-MILLION - 1, 1), (1, MILLION + 1), (True, 2), (1, True),
                       [1, 2], (1,), (1, 2, 3), 1, 0.5, "1/2", None, (1, 2.0), Rude(), Yes(), (Rude(), 1), (1, Yes())):
            self.assertIs(is_command(("line", "tea", amount)), False)
            self.assertIs(is_command(("may", "tea", amount, 0)), False)
        for amount in ((MILLION, 1), (-MILLION, 1), (1, MILLION), (0, 1), (-1, 2)):
            self.assertIs(is_command(("line", "tea", amount)), True)
            self.assertIs(is_command(("may", "tea", amount, 0)), True)

    def test_numbers(self):
        for number in range(-3, 20):
            self.assertIs(is_command(("drop", number)), 0 <= number <= 12)
            self.assertIs(is_command(("kind", "tea", (number,))), 0 <= number <= 12)
            self.assertIs(is_command(("kind", "tea", (0, number, 0))), 0 <= number <= 12)
        for number in (True, False, 1.0, "1", None, (1,), 10 ** 30, Rude(), Yes()):
            self.assertIs(is_command(("drop", number)), False)
            self.assertIs(is_command(("kind", "tea", (1, number))), False)

    def test_wholes(self):
        for whole in (MILLION, -MILLION, 0, 1, -1):
            self.assertIs(is_command(("may", "tea", (1, 2), whole)), True)
        for whole in (MILLION + 1, -MILLION - 1, True, False, 0.0, "0", None, (0,), (0, 1), 10 ** 5000, Rude(), Yes()):
            self.assertIs(is_command(("may", "tea", (1, 2), whole)), False)

    def test_tuples(self):
        for some in ([], ["tea"], "tea", None, {}, {"tea"}, 0, ("tea", 0), (("tea",),), Rude(), Yes(), range(0)):
            self.assertIs(is_command(("total", some)), False)
            self.assertIs(is_command(("add", some)), False)
        for some in ([], [1], "1", None, {}, {1}, 0, ("tea",), ((1,),), Rude(), Yes(), range(0), (True,)):
            self.assertIs(is_command(("kind", "tea", some)), False)

    def test_other_values(self):
        for value in odd_values() + ["errors", ["errors"], (), deep_tuple(4000), ("errors", ()), (("errors",),)]:
            self.assertIs(is_command(value), False)
        for command in SOME:
            for other in (False, None, 1.0, "T", [], Rude(), Yes(), -7.5, {}, b"", "seventy"):
                for value in with_swapped(command, other):
                    self.assertIs(is_command(value), False)


class Showing(unittest.TestCase):

    def test_shown(self):
        for command, text in zip(SOME, TEXTS):
            self.assertEqual(show_command(command), text)
        self.assertEqual(show_commands(SOME), "\n".join(TEXTS))
        self.assertEqual(show_commands(()), "")
        self.assertEqual(show_command(command=("drop", 3)), "drop 3")
        self.assertEqual(show_commands(commands=(("drop", 3), ("errors",))), "drop 3\nerrors")

    def test_read_again(self):
        rng = random.Random(82)
        for _ in range(300):
            commands = tuple(random_command(rng) for _ in range(rng.randint(0, 8)))
            text = show_commands(commands)
            self.assertEqual(read_commands(text), commands)
            self.assertTrue(all(map(is_command, commands)))
            for line, command in zip(text.split("\n"), commands):
                self.assertEqual(line, show_command(command))
                self.assertEqual(line, " ".join(line.split()))

    def test_blanks_and_lines_without_a_sign(self):
        rng = random.Random(83)
        for _ in range(300):
            commands = tuple(random_command(rng) for _ in range(rng.randint(0, 5)))
            lines = []
            for command in commands:
                lines.extend([" " * rng.randint(0, 3)] * rng.randint(0, 2))
                words = show_command(command).split(" ")
                between = "".join(word + " " * rng.randint(1, 3) for word in words[:-1])
                lines.append(" " * rng.randint(0, 3) + between + words[-1] + " " * rng.randint(0, 3))
            lines.extend([""] * rng.randint(0, 3))
            self.assertEqual(read_commands("\n".join(lines)), commands)


class Reading(unittest.TestCase):

    def test_texts(self):
        for command, text in zip(SOME, TEXTS):
            self.assertEqual(read_commands(text), (command,))
        self.assertEqual(read_commands(text="\n".join(TEXTS)), SOME)
        for text in ("", " ", "\n", "  \n\n   ", "\n" * 50):
            self.assertEqual(read_commands(text), ())

    def test_no_string(self):
        for value in [None, 0, True, b"errors", ["errors"], ("errors",), Rude(), Yes(), (), {}]:
            self.assertEqual(text_fault(value), (-1, -1))
        for value in odd_values():
            if not isinstance(value, str):
                self.assertEqual(text_fault(value), (-1, -1))

    def test_no_command(self):
        wrong = ["lines tea 1", "Line tea 1", "line", "line tea", "line tea 1 1", "line tea 6/4", "line tea 4/1", "line tea -0",
                 "line tea 0/1", "line tea +1", "line tea 01", "line tea 1/02", "line tea 1/0", "line tea 1/", "line tea /2",
                 "line tea 1 / 2", "line tea - 1", "line tea 1/-2", "line tea --1", "line tea 1/2/3", "line tea 1000001",
                 "line tea 1/1000001", "line tea -1000001", "line tea 0.5", "line tea one", "line Tea 1", "line seventy 1",
                 "line te1 1", "line 1 tea", "line 1", "line tea 1000001/1000000", "total Tea", "total 1", "total tea,cup",
                 "total tea seventy", "drop", "drop 13", "drop -1", "drop 01", "drop 00", "drop 1 2", "drop tea", "drop 1000000",
                 "drop 1.0", "drop -0", "kind", "kind 1", "kind tea 13", "kind tea 1 -1", "kind tea cup", "kind tea 1,2",
                 "kind tea 01", "kind Tea 1", "name", "name tea", "name tea cup pie", "name tea 1", "name Tea cup", "errors 1",
                 "errors tea", "error", "errorss", "may", "may tea", "may tea 1/2", "may tea 1/2 0 0", "may tea 1/2 1/2",
                 "may tea 1/2 -0", "may tea 1/2 00", "may tea 1/2 1000001", "may tea 1/2 -1000001", "may tea 1/2 - 1",
                 "may tea 2/4 0", "may 1/2 0", "may tea 0 1/2", "add 1", "add Tea", "addtea", "x", "-", "1", "tea", "*", ".",
                 "line tea 1;", "errors.", "ERRORS", "line tea " + "9" * 9000, "drop " + "1" * 9000, "line tea 1/" + "0" * 9000,
                 "may tea 1 " + "-" * 50, "line tea -", "may tea 1/2 -", "kind tea -", "drop -", "line tea 1/-", "line tea -/2",
                 "line tea\t1", "errors\r", "line " + "a" * 5000 + " 1"]
        for text in wrong:
            self.assertEqual(text_fault(text), (0, 0), text)
            self.assertEqual(text_fault("  " + text), (0, 0), text)
            self.assertEqual(text_fault("errors\n\n" + text + "\nerrors"), (2, 0), text)
            self.assertEqual(text_fault("\n" + text + "\n" + text), (1, 0), text)

    def test_first_line_without_a_command(self):
        rng = random.Random(84)
        for _ in range(200):
            lines = [rng.choice(("", "   ", "errors", " drop 3", "drop 13", "what", "line tea 2/4")) for _ in range(8)]
            bad = [at for at, line in enumerate(lines) if line in ("drop 13", "what", "line tea 2/4")]
            self.assertEqual(text_fault("\n".join(lines)), (bad[0], 0) if bad else None)

    def test_numerals(self):
        for whole in (0, 1, 9, 10, 99, 100, 999999, MILLION):
            self.assertEqual(read_commands(f"may a {whole} {whole}"), (("may", "a", (whole, 1), whole),))
            if whole:
                self.assertEqual(read_commands(f"may a -{whole} -{whole}"), (("may", "a", (-whole, 1), -whole),))
        self.assertEqual(text_fault("may a 1000001 0"), (0, 0))
        self.assertEqual(text_fault("may a 0 1000001"), (0, 0))
        self.assertEqual(text_fault("may a 0 9999999"), (0, 0))
        self.assertEqual(text_fault("may a 0 10000000"), (0, 0))
        for number in range(13):
            self.assertEqual(read_commands(f"drop {number}"), (("drop", number),))

    def test_names_that_are_words(self):
        for word in ("line", "total", "drop", "kind", "name", "errors", "may", "add"):
            self.assertEqual(read_commands(f"total {word} {word}"), (("total", (word, word)),))
            self.assertEqual(read_commands(f"name {word} {word}"), (("name", word, word),))

    def test_many_lines(self):
        self.assertEqual(read_commands("errors\n" * 5000), (("errors",),) * 5000)
        names = tuple(NAMES) * 200
        self.assertEqual(read_commands("add " + " ".join(names)), (("add", names),))


if __name__ == "__main__":
    unittest.main()
