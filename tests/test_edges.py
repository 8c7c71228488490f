"""The edges that the document names: deep values, and very long integers."""

import unittest
from fractions import Fraction

from drawnmore.errors import (
    InvalidChance, InvalidChanges, InvalidCounts, InvalidNumber, InvalidRows, InvalidText, InvalidUrns, NotRow,
)
from drawnmore.figures import add_up_to_one, is_decimal, lowest, powers, read_decimal, write_decimal
from drawnmore.making import all_yes, behind, coin_row, fewer, mixed, swapped, urn_row, urns_row
from drawnmore.rows import Row
from tests.helper import MOST, Case, nested, nested_list, picker

LONG = 10 ** 999


def deep():
    """Values that are nested up to ten deep."""
    found = []
    for depth in range(1, 11):
        found += [nested(depth), nested(depth, None), nested_list(depth), nested(depth - 1, [Row((1, 1))])]
        found += [nested(depth - 1, {1: 2}), nested(depth - 1, (1, 2))]
    return found


class DeepValues(Case):
    def test_as_arguments(self):
        for value in deep():
            self.assert_raises(InvalidNumber, ("given", value), urn_row, value, 1, 1)
            self.assert_raises(InvalidNumber, ("given", value), urn_row, 2, value, 1)
            self.assert_raises(InvalidNumber, ("given", value), urn_row, 2, 1, value)
            self.assert_raises(NotRow, ("given", value), swapped, value)
            self.assert_raises(NotRow, ("given", value), fewer, value, 1)
            self.assert_raises(InvalidText, ("given", value), Row.read, value)
            self.assertFalse(Row((1, 1)) == value)
            self.assertTrue(value != Row((1, 1)))
            if value != (1, 2):
                self.assert_raises(InvalidChance, ("given", value), coin_row, value, 1)

    def test_inside_of_arguments(self):
        row = Row((1, 1))
        for value in deep():
            self.assert_raises(InvalidCounts, ("index", 1), Row, (1, value))
            self.assert_raises(InvalidChanges, ("index", 0), row.changed, ((value, "x"),))
            self.assert_raises(InvalidChanges, ("index", 0), row.changed, ((1, value),))
            self.assert_raises(InvalidChanges, ("index", 0), row.changed, (value,))
            self.assert_raises(InvalidRows, ("index", 1), mixed, (row, value), None)
            self.assert_raises(InvalidUrns, ("index", 0), urns_row, 2, (value,), 1)
            self.assert_raises(InvalidUrns, ("index", 0), urns_row, 2, ((value, (1, 1)),), 1)
            shares = ((1, 2), (value, 2))
            self.assert_raises(InvalidChance, ("given", shares), mixed, (row, row), shares)


class LongIntegers(Case):
    def rows(self):
        return [
            coin_row((1, LONG), 5), coin_row((LONG - 1, LONG), 5), coin_row((LONG, LONG + 1), 4), Row((LONG, 1)),
            Row((1, 0, LONG - 1)), urns_row(MOST, ((0, (1, LONG)), (1, (LONG - 1, LONG))), 5),
            mixed((Row((LONG, 1)), Row((1, 3))), ((1, LONG), (LONG - 1, LONG))),
        ]

    def test_a_coin(self):
        row = coin_row((1, LONG), 5)
        other = LONG - 1
        right = (other ** 5, 5 * other ** 4, 10 * other ** 3, 10 * other ** 2, 5 * other, 1)
        self.assertTrue(row.counts == right)
        whole = LONG ** 5
        self.assertTrue(row.rates == tuple((count // g, whole // g) for count, g in zip(right, (1, 5, 10, 10, 5, 1))))
        self.assertTrue(all_yes(row, 5) == (1, whole))
        self.assertTrue(all_yes(row, 3) == (1, LONG ** 3))
        self.assertEqual([row.draws, len(row), repr(row), bool(row)], [5, 5, "Row of 5 draws", True])

    def test_its_text(self):
        # Counts of five thousand digits, more than Python writes at once.
        text = coin_row((1, LONG), 5).text
        lines = text.split("\n")
        self.assertEqual([lines[0], lines[5][:10], len(lines[5]), lines[6]],
                         ["draws 5", "yes 4 4999", 6 + 1000, "yes 5 1"])
        self.assertEqual(lines[5], "yes 4 4" + "9" * 998 + "5")
        self.assertEqual(len(lines[1]), 6 + 4995)
        self.assertTrue(lines[1].startswith("yes 0 " + "9" * 998 + "5" + "0" * 997))
        self.assertTrue(lines[1].endswith("0" * 998 + "4" + "9" * 999))
        self.assertTrue(str(coin_row((1, LONG), 5)) == text)

    def test_as_any_row(self):
        for row in self.rows():
            again = Row.read(row.text)
            self.assertTrue(again == row and again.counts == row.counts and again.text == row.text)
            self.assertTrue(sum(Fraction(*rate) for rate in row.rates) == 1)
            self.assertTrue(swapped(swapped(row)) == row and row.changed(()) == row)
            self.assertTrue(fewer(row, row.draws) == row and row != Row((1, 1)))
            self.assertTrue(mixed((row, row), ((1, 2), (1, 2))) == row)

    def test_parts(self):
        for chance in ((1, LONG), (LONG - 1, LONG)):
            row = coin_row(chance, 5)
            for draws in range(1, 5):
                self.assertTrue(fewer(row, draws) == coin_row(chance, draws))
                self.assertTrue(behind(row, draws, 1) == coin_row(chance, 5 - draws))

    def test_changed(self):
        for row in self.rows():
            lines = row.text.split("\n")
            self.assertTrue(row.changed(((1, lines[1]),)) == row)
            text = row.text.replace(lines[1], "yes 0 x")
            self.assert_raises(InvalidText, ("given", text), row.changed, ((1, "yes 0 x"),))
        self.assertTrue(Row((1, 1)).changed(((1, "yes 0 1" + "0" * 999),)) == Row((LONG, 1)))

    def test_mixed_again_and_again(self):
        row, other = coin_row((1, LONG), 5), coin_row((1, LONG - 1), 5)
        both = mixed((row, other), ((1, 2), (1, 2)))
        more = mixed((both, Row((1, 1, 1, 1, 1, 1))), ((1, 3), (2, 3)))
        self.assertTrue(Row.read(more.text) == more)
        right = [Fraction(1, 6) * (Fraction(*one) + Fraction(*two)) + Fraction(1, 9)
                 for one, two in zip(row.rates, other.rates)]
        self.assertTrue([Fraction(*rate) for rate in more.rates] == right)

    def test_wrong_ones(self):
        row = Row((1, 1))
        for number in (LONG, -LONG, 10 ** 1000 - 1):
            self.assert_raises(InvalidNumber, ("given", number), urn_row, number, 1, 1)
            self.assert_raises(InvalidNumber, ("given", number), urn_row, 2, number, 1)
            self.assert_raises(InvalidNumber, ("given", number), urn_row, 2, 1, number)
            self.assert_raises(InvalidNumber, ("given", number), all_yes, row, number)
            self.assert_raises(InvalidChanges, ("index", 0), row.changed, ((number, "x"),))
        self.assert_raises(InvalidCounts, ("index", 1), Row, (1, -LONG))
        for chance in ((LONG, 1), (1, -LONG), (-1, LONG), (LONG, 10 * LONG), (LONG + 1, LONG), (LONG, LONG)):
            self.assert_raises(InvalidChance, ("given", chance), coin_row, chance, 5)
            shares = (chance, (1, 2))
            self.assert_raises(InvalidChance, ("given", shares), mixed, (row, row), shares)


class Digits(unittest.TestCase):
    def test_short_ones(self):
        for number in [*range(2000), 10 ** 30, 10 ** 60 - 1, 10 ** 60, 10 ** 60 + 1, 10 ** 120, 10 ** 240 - 1]:
            self.assertEqual([write_decimal(number), read_decimal(str(number))], [str(number), number])

    def test_all_lengths(self):
        pick = picker(3)
        for length in range(1, 1000):
            word = str(1 + pick(9)) + "".join(str(pick(10) * (pick(3) > 0)) for _ in range(length - 1))
            self.assertEqual([write_decimal(int(word)), read_decimal(word)], [word, int(word)])

    def test_long_ones(self):
        for length in (4299, 4300, 4301, 5000, 19999):
            power = 1
            for _ in range(length - 1):
                power *= 10
            self.assertTrue(write_decimal(power) == "1" + "0" * (length - 1))
            self.assertTrue(write_decimal(power - 1) == "9" * (length - 1))
            self.assertTrue(read_decimal("1" + "0" * (length - 1)) == power)
            self.assertTrue(read_decimal("9" * (length - 1)) == power - 1)

    def test_what_is_decimal(self):
        for word in ("0", "1", "10", "9" * 5000):
            self.assertTrue(is_decimal(word))
        for word in ("", "00", "01", "-1", "+1", " 1", "1 ", "1.0", "1_0", "a", "1a", "\u0661", "\u00b2", "1\n"):
            self.assertFalse(is_decimal(word))


class Fractions(unittest.TestCase):
    def test_lowest(self):
        self.assertEqual([lowest(0, 7), lowest(6, 4), lowest(5, 5), lowest(2, 9)], [(0, 1), (3, 2), (1, 1), (2, 9)])
        self.assertTrue(lowest(LONG, LONG * LONG) == (1, LONG))

    def test_powers(self):
        self.assertEqual([powers(3, 0), powers(3, 4), powers(0, 2)], [[1], [1, 3, 9, 27, 81], [1, 0, 0]])

    def test_sums(self):
        for shares in (((1, 1),), ((1, 2), (1, 3), (1, 6)), ((0, 1), (1, 1)), ((1, LONG), (LONG - 1, LONG))):
            self.assertTrue(add_up_to_one(shares))
        for shares in ((), ((1, 2),), ((1, 2), (1, 3)), ((1, 1), (1, LONG)), ((2, 1),)):
            self.assertFalse(add_up_to_one(shares))


if __name__ == "__main__":
    unittest.main()
