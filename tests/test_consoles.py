"""Console: each form of a line, lines with one sign otherwise, and long logs of
lines, all held against a plain console of the test's own."""

import re
import unittest
from fractions import Fraction

from drawnmore.consoles import Console
from drawnmore.errors import InvalidNumber, NoChance, NoUrns
from drawnmore.extending import comes, greatest
from drawnmore.further import next_yes
from drawnmore.making import coin_row, urn_row
from drawnmore.rows import Row
from tests.helper import MOST, Case, great_lots, picker, plain, some_rows, urn_rates

NUMBER = "(0|[1-9][0-9]*)"
LONG = 123456789012345678901234567890


def plain_counts(text):
    """The plain counts that TEXT tells, None if it tells none of a row."""
    words = text.split(" ")
    if not 2 <= len(words) <= 6 or not all(re.fullmatch("0|[1-9][0-9]*", word) for word in words):
        return None
    counts = [int(word) for word in words]
    return plain(counts) if any(counts) else None


def slashed(chance):
    return f"{chance[0]}/{chance[1]}"


class PlainConsole:
    """A console over tuples of counts, with all it had before each change."""

    def __init__(self):
        self.rows = {}
        self.past = []

    def do(self, line):
        if line == "undo":
            if not self.past:
                return "nothing"
            self.rows = self.past.pop()
            return "undone"
        found = re.compile("row ([^ ]+) (.+)", re.DOTALL).fullmatch(line)
        if found:
            return self.put(*found.groups())
        for word in ("drop", "counts", "greatest", "comes", "next"):
            numbers = {"comes": f" {NUMBER}", "next": f" {NUMBER} {NUMBER}"}.get(word, "")
            found = re.compile(f"{word} ([^ ]+){numbers}", re.DOTALL).fullmatch(line)
            if found:
                name, *told = found.groups()
                return self.ask(word, name, [int(one) for one in told])
        return "no such line"

    def put(self, name, text):
        if not re.compile("[a-z][a-z0-9]{0,7}").fullmatch(name):
            return "no name"
        counts = plain_counts(text)
        if counts is None:
            return "no row"
        self.past.append(self.rows)
        self.rows = {**self.rows, name: counts}
        return "put"

    def ask(self, word, name, numbers):
        if numbers and not 1 <= numbers[-1] <= MOST:
            return "no such line"
        if name not in self.rows:
            return "no such row"
        if word == "drop":
            self.past.append(self.rows)
            self.rows = {one: counts for one, counts in self.rows.items() if one != name}
            return "dropped"
        row = Row(self.rows[name])
        if word == "counts":
            return " ".join(map(str, row.counts))
        if word == "comes":
            return "yes" if comes(row, *numbers) else "no"
        if word == "greatest":
            return "always" if greatest(row) is None else str(greatest(row))
        try:
            return " ".join(map(slashed, next_yes(row, *numbers)))
        except (InvalidNumber, NoChance, NoUrns):
            return "none"

    @property
    def names(self):
        return tuple(sorted(self.rows))


class ConsoleCase(Case):
    def led(self, lines):
        """A console with these lines done, all of which put or drop."""
        console = Console()
        for line in lines:
            self.assertIn(console.do(line), ("put", "dropped"))
        return console

    def assert_answers(self, console, told):
        for line, answer in told:
            found = console.do(line)
            self.assertEqual(found, answer, line)
            self.assertIs(found.__class__, str)

    def assert_no_lines(self, lines):
        """These are no lines, and change nothing."""
        console = self.led(["row a 1 4 1", "row b 1 2 1"])
        for line in lines:
            self.assertEqual(console.do(line), "no such line", line)
            self.assertEqual(PlainConsole().do(line), "no such line", line)
        self.assertEqual(console.names, ("a", "b"))
        self.assert_answers(console, [("counts a", "1 4 1"), ("undo", "undone"), ("undo", "undone"), ("undo", "nothing")])


class Forms(ConsoleCase):
    def test_at_first(self):
        console = Console()
        self.assertEqual([console.names, console.names.__class__], [(), tuple])
        self.assert_answers(console, [
            ("undo", "nothing"), ("undo", "nothing"), ("drop a", "no such row"), ("counts a", "no such row"),
            ("comes a 1", "no such row"), ("greatest a", "no such row"), ("next a 0 1", "no such row"),
        ])
        self.assertEqual(console.names, ())

    def test_by_position_and_by_name(self):
        console = Console()
        self.assertEqual([console.do("row a 1 1"), console.do(line="counts a"), console.do(line="what")],
                         ["put", "1 1", "no such line"])

    def test_put(self):
        console = Console()
        self.assert_answers(console, [
            ("row a 2 8 2", "put"), ("counts a", "1 4 1"), ("row a 0 5", "put"), ("counts a", "0 1"),
            ("row a 0 5", "put"), ("undo", "undone"), ("counts a", "0 1"), ("undo", "undone"), ("counts a", "1 4 1"),
            ("undo", "undone"), ("counts a", "no such row"), ("undo", "nothing"),
        ])

    def test_names(self):
        for name in ("a", "z", "ab", "a0", "z9", "abcdefgh", "a1234567", "row", "undo", "zzzzzzzz", "a0b1c2d3"):
            console = Console()
            self.assert_answers(console, [(f"row {name} 1 1", "put"), (f"counts {name}", "1 1")])
            self.assertEqual(console.names, (name,))
        for name in (
            "A", "aB", "1", "0a", "9", "abcdefghi", "a12345678", "_", "a_", "a-b", "a.b", "-", "\n", "a\n", "\na", "a\nb",
            "a" * 100, "~", "!", "a!", "{", "`", "@", "[", "a{", "a`", "a/", "a:", "Z",
        ):
            console = Console()
            self.assert_answers(console, [
                (f"row {name} 1 1", "no name"), (f"row {name} x", "no name"), (f"row {name}  ", "no name"),
                (f"counts {name}", "no such row"), (f"drop {name}", "no such row"), (f"comes {name} 3", "no such row"),
                (f"greatest {name}", "no such row"), (f"next {name} 0 3", "no such row"), ("undo", "nothing"),
            ])
            self.assertEqual(console.names, ())

    def test_names_are_told_ascending(self):
        console = self.led([f"row {name} 1 1" for name in ("b", "a", "c1", "c", "aa", "z0", "a9", "a0")])
        self.assertEqual(console.names, ("a", "a0", "a9", "aa", "b", "c", "c1", "z0"))

    def test_rows(self):
        for text, counts in (
            ("1 1", "1 1"), ("0 1", "0 1"), ("1 0", "1 0"), ("5 0 0 0 0 10", "1 0 0 0 0 2"), ("0 3 0", "0 1 0"),
            ("6 9 3 12 15 0", "2 3 1 4 5 0"), (f"{10 ** 40} {10 ** 40 + 1}", f"{10 ** 40} {10 ** 40 + 1}"),
            (f"0 {LONG} {2 * LONG}", "0 1 2"), (f"{10 ** 999} 1", f"{10 ** 999} 1"),
        ):
            self.assert_answers(Console(), [(f"row a {text}", "put")])
            self.assert_answers(self.led([f"row a {text}"]), [("counts a", counts)])

    def test_no_rows(self):
        for text in (
            "0", "1", "0 0", "0 0 0 0 0 0", "1 1 1 1 1 1 1", "1 1 1 1 1 1 1 1", "0 0 0 0 0 0 1", "01 1", "1 01", "00 1",
            "1 00", "-1 1", "1 -1", "+1 1", "1 +1", "1.0 1", "1,1", "1/2 1/2", "1  1", " 1 1", "1 1 ", "  ", " ", "   ",
            "1\n1", "1 1\n", "\n1 1", "\n", "x", "1 x", "one two", "1_0 1", "1e3 1", "0x1 1", "a 1 1", "row a 1 1", "- 1",
            "draws 1", "draws 1\nyes 0 1\nyes 1 1", "1 1 # two", "(1, 1)", "1; 1", "~ ~", "--1 1", "1 \n", "1 1\n1",
        ):
            console = self.led(["row a 1 4 1"])
            self.assert_answers(console, [(f"row a {text}", "no row"), (f"row b {text}", "no row")])
            # A name is asked first.
            self.assert_answers(console, [(f"row B {text}", "no name"), (f"row a\n {text}", "no name")])
            self.assertEqual(console.names, ("a",))
            self.assert_answers(console, [("counts a", "1 4 1"), ("undo", "undone"), ("undo", "nothing")])

    def test_drop(self):
        console = self.led(["row a 1 4 1", "row b 1 1", "drop a"])
        self.assertEqual(console.names, ("b",))
        self.assert_answers(console, [
            ("drop a", "no such row"), ("counts a", "no such row"), ("undo", "undone"), ("counts a", "1 4 1"),
            ("drop b", "dropped"), ("drop a", "dropped"), ("drop a", "no such row"),
        ])
        self.assertEqual(console.names, ())
        self.assert_answers(console, [("undo", "undone"), ("counts a", "1 4 1"), ("counts b", "no such row")])

    def test_comes(self):
        console = self.led(["row a 1 4 1", "row b 1 2 1", "row c 0 1 0 0 0 0"])
        for slips in (1, 2, 3, 4, 5, 6, LONG, MOST - 1, MOST):
            self.assert_answers(console, [
                (f"comes a {slips}", "yes" if 2 <= slips <= 4 else "no"), (f"comes b {slips}", "no" if slips < 2 else "yes"),
                (f"comes c {slips}", "yes" if slips == 5 else "no"), (f"comes d {slips}", "no such row"),
            ])

    def test_greatest(self):
        console = self.led([
            "row a 1 4 1", "row b 1 2 1", "row c 0 1 0 0 0 0", f"row d {10 ** 9} {2 * 10 ** 9 + 1} {10 ** 9}",
            f"row e {10 ** 40} {2 * 10 ** 40 + 1} {10 ** 40}", "row f 0 1",
        ])
        self.assert_answers(console, [
            ("greatest a", "4"), ("greatest b", "always"), ("greatest c", "5"), ("greatest d", "4000000002"),
            ("greatest e", str(4 * 10 ** 40 + 2)), ("greatest f", "always"), ("greatest g", "no such row"),
        ])

    def test_next(self):
        console = self.led(["row a 1 4 1", "row b 1 2 1", "row c 1 1", "row d 1 0 0", "row e 0 0 1"])
        self.assert_answers(console, [
            ("next a 1 4", "1/2 1/2"), ("next a 0 4", "1/1 1/1"), ("next a 2 4", "0/1 0/1"), ("next a 1 5", "none"),
            ("next a 3 4", "none"), ("next a 1 2", "none"), ("next a 1 1", "none"), ("next a 9 9", "none"),
            ("next b 2 4", "1/3 2/3"), ("next c 0 2", "0/1 1/1"), ("next c 1 2", "0/1 1/1"), ("next d 0 3", "0/1 0/1"),
            ("next d 1 3", "none"), (f"next a 0 {MOST}", "none"), (f"next b {10 ** 40} {MOST}", "none"),
            (f"next c 0 {MOST}", f"0/1 {MOST // 2}/{MOST - 1}"), ("next e 2 3", "1/1 1/1"), ("next x 0 3", "no such row"),
        ])

    def test_what_next_yes_tells(self):
        for at, row in enumerate([*some_rows(40, 51), *great_lots(20, MOST, 52), urn_row(MOST, LONG, 5)]):
            console = self.led([f"row a {' '.join(map(str, row.counts))}"])
            for slips in (1, row.draws, row.draws + 1, row.draws + 2, LONG, MOST):
                for yes in (0, 1, row.draws, row.draws + 1, 10 ** 40):
                    try:
                        right = " ".join(map(slashed, next_yes(row, yes, slips)))
                    except (InvalidNumber, NoChance, NoUrns):
                        right = "none"
                    self.assertEqual(console.do(f"next a {yes} {slips}"), right)

    def test_great_numbers(self):
        row = Row((10 ** 999 + 7, 2 * 10 ** 999 + 1, 10 ** 999))
        console = self.led([f"row a {' '.join(map(str, row.counts))}"])
        self.assertEqual(console.do("counts a"), " ".join(map(str, row.counts)))
        told = console.do("next a 1 3").split(" ")
        self.assertEqual(tuple(Fraction(one) for one in told), tuple(Fraction(*one) for one in next_yes(row, 1, 3)))

    def test_a_greatest_number_of_forty_figures(self):
        for slips in (MOST + 1, 10 ** 40):
            counts = plain(urn_rates(slips, slips // 2, 2))
            console = self.led([f"row a {' '.join(map(str, counts))}"])
            self.assert_answers(console, [("greatest a", str(slips)), (f"comes a {MOST}", "yes"),
                                          (f"comes a {slips}", "no such line")])


class NoLines(ConsoleCase):
    def test_words(self):
        self.assert_no_lines([
            "", " ", "  ", "\n", "x", "row", "drop", "counts", "comes", "greatest", "next", "names", "help", "undone",
            "Undo", "UNDO", "undo ", " undo", "undo undo", "undo a", "undo\n", "\nundo", "und", "undoo", "undo 1", "rows a 1 1",
            "Row a 1 1", "ROW a 1 1", "row\na 1 1", "put a 1 1", "likely a 1 1", "always a", "count a", "come a 4",
        ])

    def test_spaces(self):
        self.assert_no_lines([
            "row ", "row  ", "row a", "row a ", "row  a", "row  1 1", "row  a 1 1", " row a 1 1", "drop ", "drop  ", "drop  a",
            "drop a ", " drop a", "drop a b", "drop a\n b", "counts ", "counts  a", "counts a ", "counts a 1", "greatest ",
            "greatest  a", "greatest a ", "greatest a 4", " greatest a", "comes", "comes ", "comes a", "comes a ", "comes  4",
            "comes  a 4", "comes a  4", "comes a 4 ", "comes a 4 4", " comes a 4", "next a", "next a 1", "next a 1 ",
            "next  a 1 4", "next a  1 4", "next a 1  4", "next a 1 4 ", "next a 1 4 4", " next a 1 4", "next  1 4", "next a  4",
        ])

    def test_numbers(self):
        for number in ("", "-1", "+4", "04", "00", "4.0", "4,", "x", "four", "4\n", "\n4", "4x", "x4", "0x4", "1e3", "1_0", "4/1",
                       "--4", "~", "a"):
            self.assert_no_lines([f"comes a {number}", f"next a {number} 4", f"next a 1 {number}", f"comes x {number}"])
        for number in ("0", str(MOST + 1), str(10 ** 31), str(10 ** 40), str(10 ** 999)):
            self.assert_no_lines([f"comes a {number}", f"next a 1 {number}", f"comes x {number}", f"next x 1 {number}"])

    def test_a_line_is_none_whatever_the_name(self):
        self.assert_no_lines(["comes nobody 0", "next nobody 1 0", "next nobody -1 4", "comes NOBODY x", "comes \n 0"])

    def test_one_sign_otherwise(self):
        """Each line with one sign put in, left out or otherwise is answered as by the plain console."""
        lines = [
            "row a 1 4 1", "row b 2 4 2", "drop a", "counts a", "comes a 4", "comes a 10", "greatest a", "next a 1 4",
            "undo", f"comes a {MOST}", "row abcdefgh 10 0 7 1 2 3", "next b 2 10",
        ]
        answers = {}
        for line in lines:
            for at in range(len(line) + 1):
                for sign in ("", " ", "\n", "0", "1", "a", "A", "-", "~"):
                    for other in (line[:at] + sign + line[at:], line[:at] + sign + line[at + 1:]):
                        console, own = Console(), PlainConsole()
                        for one in ("row a 1 4 1", "row b 1 2 1"):
                            console.do(one)
                            own.do(one)
                        answer = console.do(other)
                        self.assertEqual(answer, own.do(other), other)
                        self.assertEqual(console.names, own.names, other)
                        answers[answer] = answers.get(answer, 0) + 1
        for answer in ("put", "dropped", "no name", "no row", "no such row", "no such line", "undone", "yes", "no", "none"):
            self.assertGreater(answers[answer], 5)


class Logs(ConsoleCase):
    """Long logs of lines."""

    NAMES = ("a", "b", "c9", "abcdefgh", "row", "A", "abcdefghi", "a\n", "")
    TEXTS = ("1 4 1", "1 2 1", "2 8 2", "0 1 0", "1 1", "1 2 3 4", "1 3 3 1", "0 0", "1", "1 0 0 0 0 2", "1 1 1 1 1 1 1",
             "01 1", " 1 1", "5 5 5 5 5", "")
    NUMBERS = ("0", "1", "2", "3", "4", "5", "12", "04", str(MOST), str(MOST + 1), "", "x")

    def line(self, pick):
        word = ("row", "row", "row", "drop", "undo", "counts", "comes", "greatest", "next")[pick(9)]
        name = self.NAMES[pick(len(self.NAMES)) % (1 + pick(len(self.NAMES)))]
        numbers = [self.NUMBERS[pick(len(self.NUMBERS)) % (1 + pick(len(self.NUMBERS)))] for _ in range(2)]
        parts = {
            "row": [name, self.TEXTS[pick(len(self.TEXTS))]], "undo": [], "comes": [name, numbers[0]], "next": [name, *numbers],
        }.get(word, [name])
        line = " ".join([word, *parts])
        if pick(8) == 0:
            at = pick(len(line) + 1)
            line = line[:at] + (" ", "", "0", "\n", "a")[pick(5)] + line[at + pick(2):]
        return line

    def test_long_logs(self):
        answers = {}
        for seed in range(6):
            pick = picker(500 + seed)
            console, own = Console(), PlainConsole()
            for _ in range(600):
                line = self.line(pick)
                answer = console.do(line)
                self.assertEqual(answer, own.do(line), line)
                self.assertEqual(console.names, own.names)
                answers[answer] = answers.get(answer, 0) + 1
            self.assert_all_taken_back(console, own)
        for answer in ("put", "dropped", "undone", "no name", "no row", "no such row", "no such line", "none", "always", "no"):
            self.assertGreater(answers[answer], 10)

    def assert_all_taken_back(self, console, own):
        for _ in range(len(own.past)):
            self.assertEqual([console.do("undo"), own.do("undo")], ["undone"] * 2)
            self.assertEqual(console.names, own.names)
            for name in own.names:
                self.assertEqual(console.do(f"counts {name}"), own.do(f"counts {name}"))
        self.assertEqual([console.do("undo"), console.do("undo"), console.names], ["nothing", "nothing", ()])

    def test_two_side_by_side(self):
        pick = picker(601)
        pairs = [(Console(), PlainConsole()) for _ in range(2)]
        for _ in range(800):
            console, own = pairs[pick(2)]
            line = self.line(pick)
            self.assertEqual(console.do(line), own.do(line), line)
            for console, own in pairs:
                self.assertEqual(console.names, own.names)
        for console, own in pairs:
            self.assert_all_taken_back(console, own)

    def test_a_long_one_taken_back(self):
        console = Console()
        for at in range(3000):
            self.assertEqual(console.do(f"row a {at} 1" if at % 3 else "row a 1 1"), "put")
        for at in range(2998, -1, -1):
            self.assertEqual(console.do("undo"), "undone")
            self.assertEqual(console.do("counts a"), f"{at} 1" if at % 3 else "1 1")
        self.assertEqual([console.do("undo"), console.do("counts a"), console.do("undo")],
                         ["undone", "no such row", "nothing"])

    def test_questions_are_not_taken_back(self):
        console = self.led(["row a 1 4 1", "row b 1 1"])
        for line in ("counts a", "comes a 4", "greatest a", "next a 1 4", "what", "row c 0 0", "row C 1 1", "drop c"):
            console.do(line)
        self.assert_answers(console, [("undo", "undone"), ("counts b", "no such row"), ("undo", "undone"), ("undo", "nothing")])

    def test_what_was_taken_back_is_gone(self):
        console = self.led(["row a 1 1", "row b 1 1"])
        self.assert_answers(console, [("undo", "undone"), ("row c 1 2", "put"), ("undo", "undone"), ("undo", "undone"),
                                      ("undo", "nothing")])


class AsObjects(ConsoleCase):
    def test_never_equal(self):
        one, two = Console(), Console()
        self.assertTrue(one == one and not one != one)
        for other in (two, self.led(["row a 1 1"]), (), None, 0, "", True):
            self.assertTrue(one != other and not one == other)
            self.assertTrue(other != one and not other == one)

    def test_true(self):
        self.assertIs(bool(Console()), True)
        self.assertIs(bool(self.led(["row a 1 1"])), True)

    def test_names_told_stay(self):
        console = self.led(["row a 1 1"])
        names = console.names
        console.do("row b 1 1")
        self.assertEqual([names, console.names], [("a",), ("a", "b")])

    def test_asked_twice(self):
        console = self.led(["row a 1 4 1", f"row b {' '.join(map(str, coin_row((1, 3), 5).counts))}"])
        lines = ["counts a", "comes a 4", "greatest a", "next a 1 4", "counts b", f"next b 3 {MOST}", "greatest b"]
        first = [console.do(line) for line in lines]
        self.assertEqual([console.do(line) for line in lines[::-1]], first[::-1])


if __name__ == "__main__":
    unittest.main()
