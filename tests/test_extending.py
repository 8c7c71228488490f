"""comes, urns and against: held against trying all lots of few urns, and what
they tell of great numbers, looked through by the document's definitions."""

import unittest
from itertools import combinations
from math import perm

from drawnmore.extending import (
    against, choices, comes, highest_points, lowest_points, row_sums, shares_on, urns,
)
from drawnmore.making import behind, coin_row, fewer, mixed, swapped, urn_row, urns_row
from drawnmore.rows import Row
from tests.helper import (
    MOST, Case, great_lots, is_even, lot_rows, mean_of, picker, product_at, sign_of, small_rows, some_fractions,
    some_rows, tried_lots,
)

# Up to so many slips all lots are tried, for one draw, two, ..
TRIED = {1: 8, 2: 10, 3: 9, 4: 8, 5: 8}
ROWS = [*small_rows(2, 4), *small_rows(3, 2), *some_rows(80), *lot_rows(160, 9)]
LONG = 123456789012345678901234567890


class Looked(Case):
    def check(self, row, slips, right=None):
        """What all three tell is shown to be right; `right` is whether the row comes of the slips."""
        told = comes(row, slips)
        self.assertIs(told.__class__, bool)
        if right is not None:
            self.assertIs(told, right, (row.counts, slips))
        if told:
            self.assert_lot(urns(row, slips), row, slips)
            self.assertIsNone(against(row, slips))
        else:
            self.assertIsNone(urns(row, slips))
            if slips < row.draws:
                self.assertEqual(against(row, slips), ())
            else:
                self.assert_tells_against(against(row, slips), row, slips)
        return told


class Tried(Looked):
    def test_all_lots_of_points(self):
        seen = {True: 0, False: 0}
        for row in ROWS:
            for slips in range(row.draws, TRIED[row.draws] + 1):
                right = len(tried_lots(row, slips)) > 0
                seen[self.check(row, slips, right)] += 1
        self.assertGreater(min(seen.values()), 300)

    def test_one_slip_more_and_it_comes_of_fewer(self):
        for row in ROWS:
            told = [comes(row, slips) for slips in range(row.draws, 40)]
            self.assertEqual(told, sorted(told, reverse=True))

    def test_below_the_draws(self):
        for row in ROWS[::7]:
            for slips in range(1, row.draws):
                self.check(row, slips, False)

    def test_as_many_as_the_draws(self):
        for row in ROWS[::3]:
            self.check(row, row.draws, True)
            right = tuple((yes, rate) for yes, rate in enumerate(row.rates) if rate[0] > 0)
            self.assertEqual(urns(row, row.draws), right)

    def test_one_draw_comes_of_all(self):
        for counts in ((1, 0), (0, 1), (1, 1), (3, 4), (LONG, 1), (1, 10 ** 40), (10 ** 40, 10 ** 40 + 1)):
            for slips in (1, 2, 3, 7, 10 ** 6, MOST - 1, MOST):
                self.check(Row(counts), slips, True)

    def test_five_draws(self):
        self.check(Row((1, 5, 10, 10, 5, 1)), MOST, True)
        self.check(Row((0, 1, 0, 0, 0, 0)), 5, True)
        self.check(Row((0, 1, 0, 0, 0, 0)), 6, False)
        self.check(Row((1, 0, 0, 0, 0, 1)), MOST, True)
        self.check(Row((1, 0, 0, 0, 1, 1)), 6, True)
        self.check(Row((1, 0, 0, 0, 1, 0)), 6, False)

    def test_by_position_and_by_name(self):
        row = Row((1, 4, 1))
        for call, right in ((comes, (True, False)), (urns, (((2, (1, 1)),), None)), (against, (None, (2, 3)))):
            for slips, answer in zip((4, 5), right):
                for told in (call(row, slips), call(row=row, slips=slips), call(slips=slips, row=row)):
                    self.assertEqual(told, answer)

    def test_equal_calls_give_equal_answers(self):
        for row in ROWS[::5]:
            for slips in (row.draws, row.draws + 2, MOST):
                other = Row(tuple(3 * count for count in row.counts))
                for call in (comes, urns, against):
                    self.assertEqual(call(row, slips), call(other, slips))

    def test_the_row_stays(self):
        for row in ROWS[::5]:
            before = (row.counts, row.text)
            for call in (comes, urns, against):
                call(row, 7)
            self.assertEqual((row.counts, row.text), before)


class RowsOfAllKinds(Looked):
    def test_urns(self):
        for slips in (2, 3, 5, 8, 1000, MOST):
            for draws in range(1, min(slips, 5) + 1):
                for yes in {0, 1, 2, slips // 3, slips // 2, slips - 2, slips - 1, slips}:
                    row = urn_row(slips, yes, draws)
                    self.check(row, slips, True)
                    if slips < MOST:
                        # An urn with both comes of no more slips, if two draws tell of it.
                        self.check(row, slips + 1, draws == 1 or yes in (0, slips))

    def test_lots_of_urns(self):
        for slips in (6, 7, 20, 10 ** 6, 10 ** 15 + 1, MOST):
            for row in great_lots(25, slips, slips % 97 + 5):
                self.check(row, slips, True)
                for other in (slips // 2 + 3, slips - 1, min(slips + 1, MOST), min(2 * slips, MOST), MOST):
                    self.check(row, other)

    def test_coins_and_mixtures_of_coins(self):
        for draws in range(1, 6):
            coins = tuple(coin_row(chance, draws) for chance in some_fractions(8, 10 ** 9, seed=draws))
            for slips in (draws, draws + 1, 50, 10 ** 20 + 7, MOST):
                for row in coins:
                    self.check(row, slips, True)
                for many in (2, 3, 8):
                    self.check(mixed(coins[:many], ((1, many),) * many), slips, True)

    def test_fewer(self):
        for row in [*lot_rows(60, 12, seed=3), *some_rows(40, seed=4)]:
            for slips in range(row.draws, 14):
                if comes(row, slips):
                    for draws in range(1, row.draws + 1):
                        self.check(fewer(row, draws), slips, True)

    def test_swapped(self):
        for row in [*lot_rows(60, 12, seed=6), *some_rows(60, seed=7)]:
            for slips in (*range(1, 14), 10 ** 9, MOST):
                self.assertEqual(self.check(swapped(row), slips), comes(row, slips))

    def test_behind(self):
        for row in lot_rows(80, 12, seed=8):
            for slips in range(row.draws + 1, 14):
                if not comes(row, slips):
                    continue
                for draws in range(1, row.draws):
                    for yes in range(draws + 1):
                        # The slips that were drawn are gone.
                        if any(row.counts[yes:yes + row.draws - draws + 1]):
                            self.check(behind(row, draws, yes), slips - draws, True)

    def test_mixed(self):
        rows = [row for row in lot_rows(200, 8, seed=9) if row.draws == 3 and comes(row, 8)]
        self.assertGreater(len(rows), 10)
        for one, two in zip(rows, rows[1:]):
            self.check(mixed((one, two), ((1, 3), (2, 3))), 8, True)


class GreatNumbers(Looked):
    def test_thirty_figures(self):
        for slips in (LONG, MOST - 1, MOST):
            for row in [*some_rows(80, seed=11), *lot_rows(30, 9, seed=12), *great_lots(40, slips, 13)]:
                self.check(row, slips)

    def test_counts_of_forty_figures(self):
        pick = picker(14)
        for _ in range(150):
            draws = 1 + pick(5)
            base = coin_row((pick(10 ** 8), 10 ** 8 + 37), draws).counts
            counts = tuple(count + pick(3) - 1 if count else pick(2) for count in base)
            for slips in (draws + 1, 10 ** 8, 10 ** 15, MOST):
                self.check(Row(counts), slips)
            counts = tuple(pick(10 ** 40) * (pick(4) > 0) for _ in range(draws)) + (1 + pick(10 ** 40),)
            for slips in (draws + 1, draws + 2, 40, MOST):
                self.check(Row(counts), slips)

    def test_an_urn_of_thirty_figures_is_alone(self):
        for draws in range(2, 6):
            for yes in (1, 2, LONG, MOST // 2, MOST - 1):
                row = urn_row(MOST, yes, draws)
                self.assertEqual(urns(row, MOST), ((yes, (1, 1)),))
                self.check(urn_row(MOST - 1, min(yes, MOST - 2), draws), MOST, False)

    def test_the_edge_of_two_draws(self):
        # A lot of two neighbours has the least chance of two yes.
        for slips in (9, 10 ** 12 + 1, MOST):
            yes = slips // 3
            least = urns_row(slips, ((yes, (1, 3)), (yes + 1, (2, 3))), 2)
            self.check(least, slips, True)
            none, one, two = least.counts
            self.check(Row((none * 10 ** 9, one * 10 ** 9 + 1, two * 10 ** 9)), slips, False)
            self.assertEqual(against(Row((none * 10 ** 9, one * 10 ** 9 + 1, two * 10 ** 9)), slips), (yes, yes + 1))

    def test_counts_of_a_thousand_figures(self):
        great = 10 ** 999
        for counts in ((great, 2 * great - 1, great), (great, 2 * great + 1, great), (1, great, great - 1, 3)):
            for slips in (3, 4, 1000, MOST):
                self.check(Row(counts), slips)


class Points(Case):
    """The points by which all of it is told."""

    def test_of_each_degree(self):
        for row in [*ROWS, *great_lots(100, MOST, 17)]:
            slips_of = (row.draws + 1, row.draws + 2, 9, 1000, MOST) if row in ROWS else (MOST,)
            for slips in [slips for slips in slips_of if slips > row.draws and comes(row, slips)]:
                sums = row_sums(row.counts, slips)
                for many in range(1, row.draws + 2):
                    self.check(lowest_points(sums, many, slips), many, slips, 1)
                    self.check(highest_points(sums, many, slips), many, slips, -1)
                for points in (lowest_points(sums, len(sums), slips), highest_points(sums, len(sums), slips)):
                    self.assert_lot(shares_on(sums, points), row, slips)

    def test_of_any_lot(self):
        """Of lots of few urns, near one another too, whose points can be in many places."""
        pick = picker(18)
        for _ in range(6000):
            many = 1 + pick(6)
            slips = (many, many + 1, many + 2 + pick(6), 30, 1000, MOST)[pick(6)]
            lot = {}
            at = 0
            for _ in range(1 + pick(many + 2)):
                at = (pick(slips + 1), pick(min(slips, 4) + 1), slips - pick(min(slips, 4) + 1), at + 1, at + 2)[pick(5)]
                lot[min(at, slips)] = (1, 1, 2, 10 ** 9, 10 ** 25)[pick(5)]
            sums = [sum(share * perm(yes, j) for yes, share in lot.items()) for j in range(many)]
            for points, turn in ((lowest_points(sums, many, slips), 1), (highest_points(sums, many, slips), -1)):
                self.check(points, many, slips, turn)
                for one in points:
                    others = [other for other in points if other != one]
                    top = sum(share * product_at(others, yes) for yes, share in lot.items())
                    self.assertGreaterEqual(top * product_at(others, one), 0, (lot, points))

    def check(self, points, many, slips, turn):
        self.assertEqual(len(points), many)
        self.assertTrue(all(one < two for one, two in zip(points, points[1:])), points)
        self.assertTrue(0 <= points[0] and points[-1] <= slips)
        # All places may be among the points: then there is no sign to be seen.
        near = [at + step for at in points for step in (-1, 0, 1) if 0 <= at + step <= slips]
        self.assertTrue(all(turn * product_at(points, at) >= 0 for at in near), (points, slips))

    def test_choices(self):
        for most in range(7):
            for many in range(8):
                self.assertEqual(choices(most, many), list(combinations(range(most), many)))


class TheTestsThemselves(unittest.TestCase):
    """What the answers are held against is right where it is plain to see."""

    def test_even(self):
        for points in ((), (0,), (5,), (0, 5), (0, 1), (1, 2), (0, 1, 2), (0, 1, 4, 5), (1, 2, 3, 4), (0, 2, 3, 5)):
            self.assertTrue(is_even(points, 5), points)
        for points in ((1,), (0, 2), (1, 3), (2, 1), (1, 1), (0, 1, 2, 3, 4, 5), (-1, 0), (5, 6), (1, 2, 3)):
            self.assertFalse(is_even(points, 5), points)
        self.assertTrue(is_even((3, 4, 5), 5))
        self.assertFalse(is_even((3, 4, 5), 6))

    def test_signs(self):
        self.assertEqual([sign_of((0, 1), 5), sign_of((0,), 5), sign_of((5,), 5), sign_of((0, 5), 5)], [1, 1, -1, -1])
        self.assertIsNone(sign_of((2,), 5))
        for points in ((0, 2, 3), (1, 2, 5), (0, 1, 2, 3, 5), (2, 3, 4, 5)):
            values = [product_at(points, at) for at in range(6)]
            self.assertEqual(sign_of(points, 5), 1 if min(values) >= 0 else -1)

    def test_means_are_sums_over_the_urns(self):
        pick = picker(15)
        for row in lot_rows(40, 8, seed=16):
            for slips in range(row.draws, 9):
                for lot in tried_lots(row, slips)[:3]:
                    points = [pick(slips + 1) for _ in range(pick(row.draws + 1))]
                    right = sum(share * product_at(points, yes) for yes, share in lot.items())
                    self.assertEqual(mean_of(row, slips, lambda at: product_at(points, at)), right)


if __name__ == "__main__":
    unittest.main()
