"""Row: counts, rates, draws, text, equality, and wrong counts."""

import unittest
from fractions import Fraction

from drawnmore.errors import InvalidCounts, NotRow
from drawnmore.making import coin_row, fewer, mixed, swapped, urn_row
from drawnmore.rows import Row, check_row
from tests.helper import Case, nested, no_integers, no_rows, small_rows, some_rows, unusual

LONG = 123456789012345678901234567890


class Telling(Case):
    def test_plain_counts_stay(self):
        for counts in ((1, 0), (0, 1), (3, 5), (1, 4, 1), (1, 2, 3, 4), (1, 0, 0, 0, 0, 1), (5, 4, 3, 2, 1)):
            self.assert_same_row(Row(counts), counts)

    def test_common_divisors(self):
        cases = [
            ((0, 3, 0), (0, 1, 0)), ((2, 4), (1, 2)), ((6, 9, 15), (2, 3, 5)), ((7, 0), (1, 0)),
            ((6, 10, 15), (6, 10, 15)), ((12, 0, 18, 0, 30, 42), (2, 0, 3, 0, 5, 7)),
            ((4, 4, 4, 4, 4), (1, 1, 1, 1, 1)),
        ]
        for counts, right in cases:
            self.assert_same_row(Row(counts), right)
            self.assert_same_row(Row(right), right)

    def test_counts_of_thirty_figures(self):
        self.assert_same_row(Row((LONG, LONG + 1)), (LONG, LONG + 1))
        self.assert_same_row(Row((LONG * 7, LONG * 9, 0)), (7, 9, 0))
        self.assert_same_row(Row((10 ** 29, 5 * 10 ** 29)), (1, 5))
        self.assertEqual(Row((LONG, LONG + 1)).rates,
                         ((LONG, 2 * LONG + 1), (LONG + 1, 2 * LONG + 1)))
        self.assertEqual(Row((LONG, LONG + 1)).text,
                         "draws 1\nyes 0 123456789012345678901234567890\nyes 1 123456789012345678901234567891")

    def test_rates(self):
        cases = [
            ((1, 0), ((1, 1), (0, 1))), ((1, 1), ((1, 2), (1, 2))), ((1, 4, 1), ((1, 6), (2, 3), (1, 6))),
            ((0, 5, 0), ((0, 1), (1, 1), (0, 1))), ((1, 2, 3, 4), ((1, 10), (1, 5), (3, 10), (2, 5))),
        ]
        for counts, right in cases:
            self.assertEqual(Row(counts).rates, right)

    def test_rates_are_fractions_with_the_sum_one(self):
        for row in [*small_rows(3, 2), *some_rows(200)]:
            self.assertIs(row.rates.__class__, tuple)
            for rate, count in zip(row.rates, row.counts, strict=True):
                self.assert_fraction(rate, Fraction(count, sum(row.counts)))
            self.assertEqual(sum(Fraction(*rate) for rate in row.rates), 1)

    def test_draws_and_len(self):
        for draws in range(1, 6):
            row = Row((1,) * (draws + 1))
            self.assertEqual([row.draws, len(row)], [draws, draws])
            self.assertEqual([row.draws.__class__, row.counts.__class__], [int, tuple])

    def test_text(self):
        cases = [
            ((2, 4), "draws 1\nyes 0 1\nyes 1 2"),
            ((0, 7, 0), "draws 2\nyes 0 0\nyes 1 1\nyes 2 0"),
            ((10, 0, 3, 20), "draws 3\nyes 0 10\nyes 1 0\nyes 2 3\nyes 3 20"),
            ((1, 2, 3, 4, 5, 6), "draws 5\nyes 0 1\nyes 1 2\nyes 2 3\nyes 3 4\nyes 4 5\nyes 5 6"),
        ]
        for counts, text in cases:
            self.assertEqual([Row(counts).text, str(Row(counts))], [text, text])

    def test_repr(self):
        told = [repr(Row((1,) * (draws + 1))) for draws in range(1, 6)]
        self.assertEqual(told, [f"Row of {draws} draws" for draws in range(1, 6)])

    def test_truth(self):
        self.assertTrue(all(bool(row) is True for row in small_rows(2, 2)))

    def test_by_position_and_by_name(self):
        self.assertEqual(Row((1, 2)).counts, Row(counts=(1, 2)).counts)
        self.assertEqual(Row.read("draws 1\nyes 0 1\nyes 1 2"), Row.read(text="draws 1\nyes 0 1\nyes 1 2"))
        self.assertEqual(Row((1, 2)).changed(()), Row((1, 2)).changed(changes=()))

    def test_a_row_does_not_change(self):
        counts = (2, 4)
        row = Row(counts)
        for name in ("counts", "rates", "draws", "text"):
            with self.assertRaises(AttributeError):
                setattr(row, name, (5, 6))
        self.assertEqual([row.counts, counts], [(1, 2), (2, 4)])

    def test_told_twice_alike(self):
        for row in some_rows(20):
            told = [row.counts, row.rates, row.draws, row.text, len(row), repr(row)]
            self.assertEqual(told, [row.counts, row.rates, row.draws, row.text, len(row), repr(row)])


class Equality(Case):
    def check(self, one, two, same):
        self.assertEqual([one == two, two == one, one != two, two != one], [same, same, not same, not same])

    def test_equal_in_whatever_way_they_are_made(self):
        ways = [
            Row((1, 2, 1)), Row((3, 6, 3)), Row((LONG, 2 * LONG, LONG)),
            Row.read("draws 2\nyes 0 5\nyes 1 10\nyes 2 5"), Row((1, 4, 1)).changed(((2, "yes 1 2"),)),
            coin_row((1, 2), 2), swapped(Row((1, 2, 1))), mixed((Row((1, 0, 1)), Row((0, 1, 0))), ((1, 2), (1, 2))),
            fewer(coin_row((1, 2), 5), 2), Row.read(Row((1, 2, 1)).text),
        ]
        for one in ways:
            for two in ways:
                self.check(one, two, True)

    def test_rows_are_equal_just_if_their_texts_are(self):
        rows = small_rows(2, 3)
        for one in rows:
            for two in rows:
                self.check(one, two, one.text == two.text)

    def test_other_rows(self):
        row = Row((1, 2, 1))
        for counts in ((1, 2), (1, 2, 1, 0), (0, 1, 2, 1), (2, 1, 1), (1, 3, 1), (1, 2, 2), (1, 2, 1, 0, 0, 0)):
            self.check(row, Row(counts), False)

    def test_values_of_other_kinds(self):
        row = Row((1, 1))
        for value in [*no_rows(), row.counts, row.rates, row.text, 2, 1, nested(10, row)]:
            self.check(row, value, False)
        self.check(row, None, False)

    def test_an_urn_and_a_coin(self):
        self.check(urn_row(4, 2, 2), coin_row((1, 2), 2), False)


class WrongCounts(Case):
    def check(self, counts, index):
        self.assert_raises(InvalidCounts, ("index", index), Row, counts)
        self.assert_raises(InvalidCounts, ("index", index), Row, counts=counts)

    def test_no_tuple(self):
        for value in [*unusual(), 0, 1, -1, 10 ** 999, "", "12", [1, 1], [], {0: 1, 1: 1}, Row((1, 1))]:
            self.check(value, None)

    def test_less_than_two(self):
        for counts in ((), (1,), (0,), (-1,), (True,), ("1",), ((1, 2),), nested(10), (Row((1, 1)),)):
            self.check(counts, None)

    def test_each_wrong_element_at_each_place(self):
        for wrong in [*no_integers(), -1, -(10 ** 30), -(10 ** 999)]:
            for many in range(2, 7):
                for place in range(many):
                    counts = (1,) * place + (wrong,) + (1,) * (many - place - 1)
                    self.check(counts, place)

    def test_the_seventh(self):
        self.check((1,) * 7, 6)
        self.check((1,) * 8, 6)
        self.check((1,) * 100, 6)
        self.check((1,) * 6 + (-1,), 6)
        self.check((1,) * 6 + (None, None), 6)
        self.assert_same_row(Row((1,) * 6), (1,) * 6)

    def test_only_nothing(self):
        for many in range(2, 7):
            self.check((0,) * many, None)

    def test_several_at_once(self):
        self.check((0,) * 7, 6)
        self.check((0, -1), 1)
        self.check((0, 0, True), 2)
        self.check((False, 0), 0)
        self.check((1, 1, None, 1, -1, 1, 1), 2)
        self.check((1, 1, 1, 1, 1, "1", 1), 5)
        self.check((1, 1, 1, 1, 1, 1, "1", -1), 6)
        self.check((-1, -2), 0)
        self.check((True,), None)
        self.check([True, -1], None)
        self.check([0] * 7, None)

    def test_one_and_nothing_are_no_truths(self):
        self.assert_same_row(Row((1, 0)), (1, 0))
        self.check((True, 0), 0)
        self.check((1, False), 1)


class NoRow(Case):
    def test_check_row(self):
        for value in no_rows():
            self.assert_raises(NotRow, ("given", value), check_row, value)
        self.assertIsNone(check_row(Row((1, 1))))


if __name__ == "__main__":
    unittest.main()
