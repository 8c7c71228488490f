"""Row.read: which strings are read as a row."""

import unittest

from drawnmore.errors import InvalidText
from drawnmore.rows import Row
from tests.helper import Case, no_rows, small_rows, some_rows

TEXT = "draws 2\nyes 0 1\nyes 1 40\nyes 2 1"
LINES = TEXT.split("\n")


def text_of(draws, counts):
    return "\n".join([f"draws {draws}", *[f"yes {k} {count}" for k, count in enumerate(counts)]])


class Reading(Case):
    def test_own_texts(self):
        for row in [*small_rows(3, 2), *some_rows(200)]:
            again = Row.read(row.text)
            self.assert_same_row(again, row.counts)
            self.assertEqual([again == row, again.text], [True, row.text])

    def test_counts_that_are_not_plain(self):
        for row in [*small_rows(3, 2), *some_rows(100)]:
            for times in (2, 3, 10, 60, 10 ** 30):
                text = text_of(row.draws, [count * times for count in row.counts])
                self.assert_same_row(Row.read(text), row.counts)

    def test_all_numbers_of_draws(self):
        for draws in range(1, 6):
            counts = tuple(range(1, draws + 2))
            self.assert_same_row(Row.read(text_of(draws, counts)), counts)

    def test_off_an_object(self):
        self.assert_same_row(Row((1, 1)).read(TEXT), (1, 40, 1))


class NotRead(Case):
    def check(self, text):
        self.assert_raises(InvalidText, ("given", text), Row.read, text)
        self.assert_raises(InvalidText, ("given", text), Row.read, text=text)

    def test_lines_left_out(self):
        for at in range(4):
            self.check("\n".join(LINES[:at] + LINES[at + 1:]))
            self.check("\n".join(LINES[:at]))
            self.check("\n".join(LINES[at + 1:]))

    def test_lines_twice(self):
        for at in range(4):
            for to in range(5):
                self.check("\n".join(LINES[:to] + [LINES[at]] + LINES[to:]))

    def test_lines_exchanged(self):
        for one in range(4):
            for two in range(one):
                lines = list(LINES)
                lines[one], lines[two] = lines[two], lines[one]
                self.check("\n".join(lines))

    def test_lines_more(self):
        for more in ("", " ", "yes 3 1", "yes 2 2", "draws 2", "yes", "no 3 1", "1"):
            for at in range(5):
                self.check("\n".join(LINES[:at] + [more] + LINES[at:]))

    def test_a_sign_put_in(self):
        signs = " \n\t-+_.,'x"
        for at in range(len(TEXT) + 1):
            for sign in signs:
                self.check(TEXT[:at] + sign + TEXT[at:])

    def test_a_digit_put_in(self):
        for at in range(len(TEXT) + 1):
            for digit in "0123456789":
                self.digits_alone_may_differ(TEXT[:at] + digit + TEXT[at:])

    def test_a_sign_left_out(self):
        for at in range(len(TEXT)):
            self.digits_alone_may_differ(TEXT[:at] + TEXT[at + 1:])

    def test_a_sign_changed(self):
        for at in range(len(TEXT)):
            for code in [10, *range(32, 127)]:
                if chr(code) != TEXT[at]:
                    self.digits_alone_may_differ(TEXT[:at] + chr(code) + TEXT[at + 1:])

    def digits_alone_may_differ(self, text):
        """The text is read just if it still is one, with other counts."""
        lines = text.split("\n")
        words = [line[6:] for line in lines[1:]]
        right = lines[0] == "draws 2" and len(words) == 3
        right = right and [line[:6] for line in lines[1:]] == ["yes 0 ", "yes 1 ", "yes 2 "]
        right = right and all(word in [str(k) for k in range(10000)] for word in words)
        if right and any(int(word) for word in words):
            self.assertEqual(Row.read(text), Row(tuple(int(word) for word in words)))
        else:
            self.check(text)

    def test_nothing_in_front_of_integers(self):
        for wrong in ("01", "00", "000", "+1", "-1", "+0", "-0", "1.0", "1_0", "1e1", "0x1", " 1", "1 ", ""):
            self.check(f"draws 1\nyes 0 {wrong}\nyes 1 1")
            self.check(f"draws 1\nyes 0 1\nyes 1 {wrong}")
            self.check(f"draws 1\nyes {wrong} 1\nyes 1 1")
            self.check(f"draws {wrong}\nyes 0 1\nyes 1 1")
        self.check("draws 01\nyes 0 1\nyes 1 1")
        self.check("draws 1\nyes 00 1\nyes 1 1")
        self.check("draws 1\nyes 0 1\nyes 01 1")

    def test_other_words(self):
        for old, new in (("draws", "draw"), ("draws", "Draws"), ("draws", "rows"), ("yes", "no"), ("yes", "Yes"),
                         ("yes", "YES"), ("yes ", ""), ("draws ", ""), ("\n", " "), ("\n", "\n\n"), (" ", "  "),
                         (" ", "\t"), ("40", "forty"), ("\n", ";")):
            self.check(TEXT.replace(old, new))
            self.check(TEXT.replace(old, new, 1))

    def test_only_nothing(self):
        for draws in range(1, 6):
            self.check(text_of(draws, [0] * (draws + 1)))

    def test_other_draws(self):
        self.check(text_of(0, [1]))
        self.check(text_of(0, []))
        self.check(text_of(6, [1] * 7))
        self.check(text_of(-1, []))
        self.check(text_of(10, [1] * 11))
        for draws in range(1, 6):
            self.check(text_of(draws, [1] * draws))
            self.check(text_of(draws, [1] * (draws + 2)))

    def test_no_texts(self):
        for text in ("", "\n", "draws", "draws 1", "draws 1\n", "draws 1\n\n", "1 2", "Row of 2 draws", TEXT + "\n",
                     "\n" + TEXT, TEXT + "\n" + TEXT, TEXT + " ", " " + TEXT, TEXT.upper()):
            self.check(text)

    def test_no_strings(self):
        for value in [*no_rows(), Row((1, 1)), TEXT.encode(), [TEXT], (TEXT,), LINES, tuple(LINES)]:
            if not isinstance(value, str):
                self.check(value)


if __name__ == "__main__":
    unittest.main()
