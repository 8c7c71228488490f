"""all_yes, swapped, fewer and behind, held against going through all orders
of yes and no, and the ways in which they must agree with one another."""

import unittest
from fractions import Fraction
from math import comb

from drawnmore.errors import NoChance
from drawnmore.making import all_yes, behind, coin_row, fewer, mixed, swapped, urn_row, urns_row
from drawnmore.rows import Row
from tests.helper import MOST, Case, from_orders, orders, plain, rates, small_rows, some_fractions, some_rows

ROWS = [*small_rows(3, 2), *some_rows(150)]
LONG = 123456789012345678901234567890


class AllYes(Case):
    def test_all_orders(self):
        for row in ROWS:
            for yes in range(row.draws + 1):
                right = sum(chance for order, chance in orders(row).items() if all(order[:yes]))
                self.assert_fraction(all_yes(row, yes), right)

    def test_ends(self):
        for row in ROWS:
            self.assertEqual(all_yes(row, 0), (1, 1))
            self.assertEqual(all_yes(row, row.draws), row.rates[-1])

    def test_by_name(self):
        self.assertEqual(all_yes(yes=1, row=Row((1, 2))), (2, 3))

    def test_of_a_coin(self):
        for chance in some_fractions(30, 10 ** 30):
            for draws in range(1, 6):
                for yes in range(draws + 1):
                    self.assert_fraction(all_yes(coin_row(chance, draws), yes), Fraction(*chance) ** yes)

    def test_of_an_urn(self):
        for slips, many in ((5, 2), (6, 6), (9, 4), (100, 37), (MOST, 3), (MOST, MOST // 7), (MOST, MOST)):
            for draws in range(1, 6):
                for yes in range(draws + 1):
                    right = Fraction(comb(many, yes), comb(slips, yes))
                    self.assert_fraction(all_yes(urn_row(slips, many, draws), yes), right)

    def test_great_numbers(self):
        row = Row((LONG, LONG + 1, 2 * LONG))
        self.assertEqual(all_yes(row, 2), (2 * LONG, 4 * LONG + 1))
        # Half of the counts for one yes: (5 LONG + 1) / 2 of 4 LONG + 1.
        self.assert_fraction(all_yes(row, 1), Fraction(5 * LONG + 1, 2 * (4 * LONG + 1)))

    def test_never_greater_for_more(self):
        for row in ROWS:
            chances = [Fraction(*all_yes(row, yes)) for yes in range(row.draws + 1)]
            self.assertEqual(chances, sorted(chances, reverse=True))


class Swapped(Case):
    def test_all_orders(self):
        for row in ROWS:
            other = {tuple(1 - draw for draw in order): chance for order, chance in orders(row).items()}
            self.assert_same_row(swapped(row), from_orders(other))

    def test_twice(self):
        for row in ROWS:
            self.assertEqual(swapped(swapped(row)), row)
            self.assertEqual(swapped(row).rates, row.rates[::-1])

    def test_by_name(self):
        self.assert_same_row(swapped(row=Row((1, 2, 3))), (3, 2, 1))

    def test_the_row_stays(self):
        row = Row((1, 2, 3))
        swapped(row)
        self.assertEqual(row.counts, (1, 2, 3))


class Fewer(Case):
    def test_all_orders(self):
        for row in ROWS:
            for draws in range(1, row.draws + 1):
                left = {}
                for order, chance in orders(row).items():
                    left[order[:draws]] = left.get(order[:draws], 0) + chance
                self.assert_same_row(fewer(row, draws), from_orders(left))

    def test_as_many(self):
        for row in ROWS:
            self.assertEqual(fewer(row, row.draws), row)

    def test_by_name(self):
        self.assert_same_row(fewer(draws=1, row=Row((1, 0, 1))), (1, 1))

    def test_in_steps(self):
        for row in ROWS:
            for draws in range(1, row.draws + 1):
                for last in range(1, draws + 1):
                    self.assertEqual(fewer(fewer(row, draws), last), fewer(row, last))

    def test_of_urns_and_coins(self):
        for most in range(1, 6):
            for draws in range(1, most + 1):
                for slips, yes in ((5, 2), (7, 7), (40, 11), (MOST, 1), (MOST, MOST // 3)):
                    self.assertEqual(fewer(urn_row(slips, yes, most), draws), urn_row(slips, yes, draws))
                for chance in ((0, 1), (1, 3), (1, 1), (LONG, 10 ** 30 + 1)):
                    self.assertEqual(fewer(coin_row(chance, most), draws), coin_row(chance, draws))
                urns = ((0, (1, 6)), (3, (1, 2)), (8, (1, 3)))
                self.assertEqual(fewer(urns_row(8, urns, most), draws), urns_row(8, urns, draws))

    def test_all_yes_chances_stay(self):
        for row in ROWS:
            for draws in range(1, row.draws + 1):
                for yes in range(draws + 1):
                    self.assertEqual(all_yes(fewer(row, draws), yes), all_yes(row, yes))

    def test_swapped_fewer(self):
        for row in ROWS:
            for draws in range(1, row.draws + 1):
                self.assertEqual(swapped(fewer(row, draws)), fewer(swapped(row), draws))

    def test_great_numbers(self):
        # One of two draws: the count for one yes is parted.
        self.assert_same_row(fewer(Row((LONG, 2, LONG + 2)), 1), (LONG + 1, LONG + 3))
        self.assert_same_row(fewer(Row((10 ** 29, 0, 0, 0, 0, 1)), 2), (10 ** 29, 0, 1))


class Behind(Case):
    def test_all_orders(self):
        for row in ROWS:
            for draws in range(1, row.draws):
                for yes in range(draws + 1):
                    left = {}
                    for order, chance in orders(row).items():
                        if order[:draws] == (1,) * yes + (0,) * (draws - yes):
                            left[order[draws:]] = chance
                    if any(left.values()):
                        self.assert_same_row(behind(row, draws, yes), from_orders(left))
                    else:
                        self.assert_raises(NoChance, None, behind, row, draws, yes)

    def test_by_name(self):
        self.assert_same_row(behind(yes=1, draws=1, row=Row((1, 4, 1))), (2, 1))

    def test_in_steps(self):
        for row in [row for row in ROWS if row.draws > 2]:
            for draws in range(2, row.draws):
                for yes in range(1, draws + 1):
                    try:
                        right = behind(row, draws, yes)
                    except NoChance:
                        continue
                    self.assertEqual(behind(behind(row, 1, 1), draws - 1, yes - 1), right)

    def test_of_urns(self):
        for slips, many in ((5, 3), (6, 2), (30, 4), (MOST, 3), (MOST, MOST // 7)):
            for most in range(2, 6):
                for draws in range(1, most):
                    for yes in range(min(draws, many) + 1):
                        if slips - many >= draws - yes:
                            right = urn_row(slips - draws, many - yes, most - draws)
                            self.assertEqual(behind(urn_row(slips, many, most), draws, yes), right)

    def test_of_coins(self):
        for chance in ((1, 3), (1, 2), (LONG, 10 ** 30 + 1)):
            for most in range(2, 6):
                for draws in range(1, most):
                    for yes in range(draws + 1):
                        row = behind(coin_row(chance, most), draws, yes)
                        self.assertEqual(row, coin_row(chance, most - draws))

    def test_all_of_them_mixed_give_the_fewer(self):
        for row in ROWS:
            for draws in range(1, row.draws):
                first = fewer(row, draws)
                chances = {yes: rate for yes, rate in enumerate(first.rates) if rate[0] > 0}
                rows = tuple(behind(row, draws, yes) for yes in chances)
                self.assertEqual(mixed(rows, tuple(chances.values())), fewer(row, row.draws - draws))

    def test_chances_multiplied(self):
        for row in ROWS:
            for draws in range(1, row.draws):
                start = Fraction(*all_yes(row, draws))
                if start > 0:
                    rest = behind(row, draws, draws)
                    for yes in range(rest.draws + 1):
                        chance = start * Fraction(*all_yes(rest, yes))
                        self.assert_fraction(all_yes(row, draws + yes), chance)

    def test_swapped_behind(self):
        for row in [row for row in ROWS if all(row.counts)]:
            for draws in range(1, row.draws):
                for yes in range(draws + 1):
                    self.assertEqual(swapped(behind(row, draws, yes)), behind(swapped(row), draws, draws - yes))

    def test_no_chance(self):
        # No yes at all, all yes, and always one of two.
        for draws in range(2, 6):
            none = coin_row((0, 1), draws)
            for seen in range(1, draws):
                self.assert_same_row(behind(none, seen, 0), (1,) + (0,) * (draws - seen))
                for yes in range(1, seen + 1):
                    self.assert_raises(NoChance, None, behind, none, seen, yes)
                    self.assert_raises(NoChance, None, behind, swapped(none), seen, seen - yes)
        self.assert_raises(NoChance, None, behind, Row((0, 1, 0, 0)), 2, 2)
        self.assert_same_row(behind(Row((0, 1, 0)), 1, 1), (1, 0))

    def test_great_numbers(self):
        self.assert_same_row(behind(Row((LONG, 2 * LONG + 2, 5)), 1, 0), (LONG, LONG + 1))
        self.assert_same_row(behind(Row((7, 2 * LONG, LONG + 1)), 1, 1), (LONG, LONG + 1))
        self.assert_same_row(behind(Row((10 ** 29 + 1, 5, 0, 0, 0, 0)), 1, 0), (10 ** 29 + 1, 4, 0, 0, 0))

    def test_rates_of_what_is_left(self):
        # The chance of the told draws and of the rest makes the row's own rate.
        for row in [row for row in ROWS if all(row.counts)]:
            for draws in range(1, row.draws):
                first = rates(fewer(row, draws))
                sums = [Fraction(0)] * (row.draws + 1)
                for yes in range(draws + 1):
                    for more, rate in enumerate(rates(behind(row, draws, yes))):
                        sums[yes + more] += first[yes] * rate
                self.assertEqual(plain(sums), row.counts)


if __name__ == "__main__":
    unittest.main()
