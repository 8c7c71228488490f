"""Rows of urns, coins and mixtures, held against going through all ways to
draw, and against numbers worked out by hand."""

import unittest
from fractions import Fraction
from itertools import combinations, product

from drawnmore.making import coin_row, mixed, swapped, urn_row, urns_row
from drawnmore.rows import Row
from tests.helper import (
    MOST, Case, drawn, pair, plain, rates, small_rows, some_fractions, some_rows, thrown,
)

# Fractions of thirty figures, in lowest terms.
THIRD = (333333333333333333333333333333, 10 ** 30)
REST = (10 ** 30 - THIRD[0], 10 ** 30)
HALF = MOST // 2


def shares_of(weights):
    """The shares that stand to one another as these numbers."""
    return tuple(pair(Fraction(weight, sum(weights))) for weight in weights)


class Urns(Case):
    def test_all_ways_to_draw(self):
        for slips in range(1, 8):
            for draws in range(1, min(slips, 5) + 1):
                for yes in range(slips + 1):
                    self.assert_same_row(urn_row(slips, yes, draws), plain(drawn(slips, yes, draws)))

    def test_by_name(self):
        self.assert_same_row(urn_row(slips=4, yes=1, draws=2), (1, 1, 0))
        self.assert_same_row(urn_row(draws=2, yes=1, slips=4), (1, 1, 0))

    def test_none_and_all_yes(self):
        for slips in (1, 2, 5, 6, 100, MOST - 1, MOST):
            for draws in range(1, min(slips, 5) + 1):
                self.assert_same_row(urn_row(slips, 0, draws), (1,) + (0,) * draws)
                self.assert_same_row(urn_row(slips, slips, draws), (0,) * draws + (1,))

    def test_all_slips_drawn(self):
        for slips in range(1, 6):
            for yes in range(slips + 1):
                right = tuple(int(k == yes) for k in range(slips + 1))
                self.assert_same_row(urn_row(slips, yes, slips), right)

    def test_one_draw(self):
        self.assert_same_row(urn_row(7, 3, 1), (4, 3))
        self.assert_same_row(urn_row(MOST, 1, 1), (MOST - 1, 1))
        self.assert_same_row(urn_row(MOST, HALF, 1), (1, 1))

    def test_great_numbers(self):
        # Two draws, one yes slip: (N - 1)(N - 2) / 2 to N - 1 to 0.
        self.assert_same_row(urn_row(MOST, 1, 2), (499999999999999999999999999999, 1, 0))
        self.assert_same_row(urn_row(MOST, MOST - 1, 2), (0, 1, 499999999999999999999999999999))
        # Half of them: h (h - 1) / 2 to h * h to h (h - 1) / 2.
        self.assert_same_row(urn_row(MOST, HALF, 2), (HALF - 1, MOST, HALF - 1))
        # Three draws, half: h(h-1)(h-2)/6 to h * h(h-1)/2, so (h - 2) / 6 to h / 2.
        self.assert_same_row(urn_row(MOST, HALF, 3), plain((HALF - 2, 3 * HALF, 3 * HALF, HALF - 2)))
        self.assert_same_row(urn_row(MOST, HALF, 3), (
            83333333333333333333333333333, 250000000000000000000000000000,
            250000000000000000000000000000, 83333333333333333333333333333))
        # Five draws, one yes slip: it is drawn with the chance 5 / N.
        self.assert_same_row(urn_row(MOST, 1, 5), (199999999999999999999999999999, 1, 0, 0, 0, 0))
        # A hundred slips, two yes, five draws.
        self.assert_same_row(urn_row(100, 2, 5), plain((95 * 94, 2 * 95 * 5, 5 * 4, 0, 0, 0)))

    def test_few_yes_slips(self):
        # Only as many yes as there are.
        for yes in range(5):
            counts = urn_row(MOST, yes, 5).counts
            self.assertEqual([count > 0 for count in counts], [k <= yes for k in range(6)])
            self.assert_same_row(urn_row(MOST, MOST - yes, 5), counts[::-1])

    def test_swapped_urn(self):
        for slips, yes in ((5, 2), (6, 3), (9, 1), (MOST, 3), (MOST - 1, HALF + 17)):
            for draws in range(1, 6):
                self.assertEqual(swapped(urn_row(slips, yes, draws)), urn_row(slips, slips - yes, draws))


class LotsOfUrns(Case):
    def lot_rates(self, slips, urns, draws):
        tables = [(drawn(slips, yes, draws), Fraction(*share)) for yes, share in urns]
        return [sum(share * table[k] for table, share in tables) for k in range(draws + 1)]

    def test_all_ways_to_draw(self):
        weights = ((1,), (1, 1), (1, 2), (3, 1, 2), (1, 1, 1, 1), (5, 1, 1, 2))
        for slips in range(1, 6):
            for some in weights:
                for chosen in combinations(range(slips + 1), len(some)):
                    urns = tuple(zip(chosen, shares_of(some)))
                    draws = 1 + (sum(chosen) % slips)
                    right = plain(self.lot_rates(slips, urns, draws))
                    self.assert_same_row(urns_row(slips, urns, draws), right)

    def test_all_draws(self):
        urns = ((0, (1, 6)), (2, (1, 2)), (5, (1, 3)))
        for draws in range(1, 6):
            self.assert_same_row(urns_row(6, urns, draws), plain(self.lot_rates(6, urns, draws)))

    def test_by_name(self):
        self.assert_same_row(urns_row(draws=1, urns=((0, (1, 2)), (2, (1, 2))), slips=2), (1, 1))

    def test_one_urn(self):
        for slips in (1, 2, 6, MOST):
            for draws in range(1, min(slips, 5) + 1):
                for yes in (0, 1, slips // 2, slips - 1, slips):
                    self.assertEqual(urns_row(slips, ((yes, (1, 1)),), draws), urn_row(slips, yes, draws))

    def test_as_mixed(self):
        shares = shares_of((1, 5, 2, 9))
        for slips, chosen in ((5, (0, 1, 2, 5)), (9, (1, 4, 6, 7)), (MOST, (0, 7, HALF, MOST))):
            for draws in range(1, 6):
                lot = urns_row(slips, tuple(zip(chosen, shares)), draws)
                self.assertEqual(lot, mixed(tuple(urn_row(slips, yes, draws) for yes in chosen), shares))

    def test_all_slips_drawn_gives_the_shares(self):
        for slips in range(1, 6):
            shares = shares_of(range(1, slips + 2))
            row = urns_row(slips, tuple(enumerate(shares)), slips)
            self.assertEqual(row.rates, shares)

    def test_rows_come_of_as_many_slips_as_they_have_draws(self):
        for row in [*small_rows(3, 2), *some_rows(100)]:
            urns = tuple((yes, rate) for yes, rate in enumerate(row.rates) if rate[0] > 0)
            self.assertEqual(urns_row(row.draws, urns, row.draws), row)

    def test_great_numbers(self):
        # No yes with one share, all yes with the other one.
        urns = ((0, THIRD), (MOST, REST))
        for draws in range(1, 6):
            right = (THIRD[0],) + (0,) * (draws - 1) + (10 ** 30 - THIRD[0],)
            self.assert_same_row(urns_row(MOST, urns, draws), right)
        # One yes slip or one no slip, two draws: N - 2 to 2 + 2 to N - 2, halved.
        urns = ((1, (1, 2)), (MOST - 1, (1, 2)))
        self.assert_same_row(urns_row(MOST, urns, 2), (249999999999999999999999999999 * 2 + 1, 2, HALF - 1))
        # One draw: the mean of the urns.
        urns = ((0, (1, 3)), (HALF, (2, 3)))
        self.assert_same_row(urns_row(MOST, urns, 1), (2, 1))

    def test_many_urns(self):
        # All urns alike: each number of yes has the same chance.
        for slips in (5, 100, 400):
            urns = tuple((yes, (1, slips + 1)) for yes in range(slips + 1))
            for draws in range(1, 6):
                self.assert_same_row(urns_row(slips, urns, draws), (1,) * (draws + 1))

    def test_the_tuple_stays(self):
        urns = ((0, (1, 2)), (2, (1, 2)))
        urns_row(3, urns, 2)
        self.assertEqual(urns, ((0, (1, 2)), (2, (1, 2))))


class Coins(Case):
    def test_all_ways_to_throw(self):
        for bottom in range(1, 6):
            for top in range(bottom + 1):
                chance = pair(Fraction(top, bottom))
                for draws in range(1, 6):
                    self.assert_same_row(coin_row(chance, draws), plain(thrown(top, bottom, draws)))

    def test_by_name(self):
        self.assert_same_row(coin_row(draws=1, chance=(1, 3)), (2, 1))

    def test_ends(self):
        for draws in range(1, 6):
            self.assert_same_row(coin_row((0, 1), draws), (1,) + (0,) * draws)
            self.assert_same_row(coin_row((1, 1), draws), (0,) * draws + (1,))

    def test_half(self):
        self.assertEqual(
            [coin_row((1, 2), draws).counts for draws in range(1, 6)],
            [(1, 1), (1, 2, 1), (1, 3, 3, 1), (1, 4, 6, 4, 1), (1, 5, 10, 10, 5, 1)],
        )

    def test_great_numbers(self):
        nines = 99999999999999999999999999999
        self.assert_same_row(coin_row((1, 10 ** 29), 1), (nines, 1))
        self.assert_same_row(coin_row((1, 10 ** 29), 2), (
            9999999999999999999999999999800000000000000000000000000001, 199999999999999999999999999998, 1))
        self.assert_same_row(coin_row(THIRD, 1), (10 ** 30 - THIRD[0], THIRD[0]))
        self.assert_same_row(coin_row((10 ** 29, 10 ** 29 + 1), 5), (
            1, 5 * 10 ** 29, 10 ** 59, 10 ** 88, 5 * 10 ** 116, 10 ** 145))

    def test_swapped_coin(self):
        for top, bottom in some_fractions(50, 10 ** 30):
            for draws in range(1, 6):
                self.assertEqual(swapped(coin_row((top, bottom), draws)), coin_row((bottom - top, bottom), draws))

    def test_mean_is_the_chance(self):
        for chance in some_fractions(50, 10 ** 30):
            for draws in range(1, 6):
                shares = rates(coin_row(chance, draws))
                self.assertEqual(sum(k * share for k, share in enumerate(shares)), draws * Fraction(*chance))

    def test_great_urns_are_like_coins(self):
        # The sum of the differences is below draws ** 2 / slips.
        for draws in range(1, 6):
            urn = rates(urn_row(MOST, MOST // 4, draws))
            coin = rates(coin_row((1, 4), draws))
            gap = sum(abs(one - two) for one, two in zip(urn, coin, strict=True))
            self.assertTrue(gap <= Fraction(draws ** 2, MOST))
            self.assertEqual(gap == 0, draws == 1)


class Mixtures(Case):
    def mixture(self, rows, shares):
        tables = [(rates(row), Fraction(*share)) for row, share in zip(rows, shares, strict=True)]
        return plain([sum(share * table[k] for table, share in tables) for k in range(len(rows[0]) + 1)])

    def test_small_ones(self):
        for draws in (1, 2):
            rows = [row for row in small_rows(2, 2) if row.draws == draws]
            for pair_of in product(rows, repeat=2):
                for weights in ((1, 1), (1, 2), (0, 1), (1, 0), (3, 4)):
                    shares = shares_of(weights)
                    self.assert_same_row(mixed(pair_of, shares), self.mixture(pair_of, shares))

    def test_one_to_eight(self):
        for draws in range(1, 6):
            rows = tuple(row for row in some_rows(400, seed=draws) if row.draws == draws)
            for many in range(1, 9):
                for start in range(0, 5):
                    chosen = rows[start:start + many]
                    shares = shares_of([(k * 7 + start) % 5 for k in range(1, many + 1)] if many > 1 else [1])
                    self.assert_same_row(mixed(chosen, shares), self.mixture(chosen, shares))

    def test_by_name(self):
        rows = (Row((1, 0)), Row((0, 1)))
        self.assert_same_row(mixed(shares=((1, 3), (2, 3)), rows=rows), (1, 2))

    def test_share_none_and_all(self):
        rows = some_rows(60)
        for one in rows:
            for two in rows[:20]:
                if one.draws == two.draws:
                    self.assertEqual(mixed((one, two), ((1, 1), (0, 1))), one)
                    self.assertEqual(mixed((one, two), ((0, 1), (1, 1))), two)
            self.assertEqual(mixed((one,), ((1, 1),)), one)

    def test_the_same_row(self):
        for row in some_rows(30):
            self.assertEqual(mixed((row,) * 8, ((1, 8),) * 8), row)
            self.assertEqual(mixed((row, row), (THIRD, REST)), row)

    def test_rates_are_mixed_not_counts(self):
        # Counts that are not plain, or with other sums, count by their rates.
        self.assert_same_row(mixed((Row((1, 1)), Row((1, 3))), ((1, 2), (1, 2))), (3, 5))
        self.assert_same_row(mixed((Row((10, 10)), Row((1, 0))), ((1, 2), (1, 2))), (3, 1))

    def test_great_numbers(self):
        no, yes = Row((1, 0)), Row((0, 1))
        self.assert_same_row(mixed((no, yes), (THIRD, REST)), (THIRD[0], 10 ** 30 - THIRD[0]))
        self.assert_same_row(mixed((no, yes), ((1, MOST), (MOST - 1, MOST))), (1, 10 ** 30 - 1))
        rare = Row((10 ** 29 - 1, 1))
        self.assert_same_row(mixed((rare, yes), ((1, 2), (1, 2))), (10 ** 29 - 1, 10 ** 29 + 1))
        self.assertEqual(
            mixed((rare, Row((10 ** 28 - 1, 1))), ((1, 2), (1, 2))).rates,
            pair_of_rates(Fraction(11, 2 * 10 ** 29)))

    def test_mixed_in_two_steps(self):
        rows = [row for row in some_rows(100) if row.draws == 3][:9]
        for one, two, three in zip(rows[::3], rows[1::3], rows[2::3]):
            at_once = mixed((one, two, three), ((1, 2), (1, 3), (1, 6)))
            stepwise = mixed((one, mixed((two, three), ((2, 3), (1, 3)))), ((1, 2), (1, 2)))
            self.assertEqual(at_once, stepwise)

    def test_swapped_mixture(self):
        rows = [row for row in some_rows(100) if row.draws == 4][:8]
        shares = shares_of(range(1, len(rows) + 1))
        both = tuple(swapped(row) for row in rows)
        self.assertEqual(swapped(mixed(tuple(rows), shares)), mixed(both, shares))

    def test_what_is_passed_stays(self):
        rows, shares = (Row((1, 2)), Row((3, 1))), ((1, 3), (2, 3))
        mixed(rows, shares)
        self.assertEqual([rows[0].counts, rows[1].counts, shares], [(1, 2), (3, 1), ((1, 3), (2, 3))])


def pair_of_rates(chance):
    return (pair(1 - chance), pair(chance))


if __name__ == "__main__":
    unittest.main()
