"""always and greatest: held against minors worked out anew, against what comes,
and against answers that can be told without them."""

import unittest
from fractions import Fraction
from itertools import combinations, permutations

from drawnmore.extending import against, always, comes, greatest, urns
from drawnmore.making import coin_row, fewer, mixed, swapped, urn_row, urns_row
from drawnmore.mends import holds
from drawnmore.rows import Row
from tests.helper import (
    MOST, Case, chance_of_all, lot_rows, picker, small_rows, some_fractions, some_rows, tried_lots,
)

ROWS = [*small_rows(2, 5), *small_rows(3, 3), *some_rows(150), *lot_rows(150, 9)]
LONG = 123456789012345678901234567890


def determinant(table):
    """By going through all orders of the columns."""
    size = len(table)
    total = Fraction(0)
    for order in permutations(range(size)):
        part = Fraction(1)
        for line, column in enumerate(order):
            part *= table[line][column]
        turned = sum(one > two for one, two in combinations(order, 2))
        total += -part if turned % 2 else part
    return total


def right_tables(row):
    """The two tables of the document."""
    chance = [chance_of_all(row, j) for j in range(row.draws + 1)]
    if row.draws % 2 == 0:
        first, second = range(row.draws // 2 + 1), range(row.draws // 2)
        return (
            [[chance[i + j] for j in first] for i in first],
            [[chance[i + j + 1] - chance[i + j + 2] for j in second] for i in second],
        )
    both = range((row.draws - 1) // 2 + 1)
    return (
        [[chance[i + j + 1] for j in both] for i in both],
        [[chance[i + j] - chance[i + j + 1] for j in both] for i in both],
    )


def right_always(row):
    return all(
        determinant([[table[i][j] for j in lines] for i in lines]) >= 0
        for table in right_tables(row)
        for many in range(1, len(table) + 1)
        for lines in combinations(range(len(table)), many)
    )


def coin_mixture(draws, many, seed):
    """Throws of one of several coins."""
    coins = tuple(coin_row(chance, draws) for chance in some_fractions(many, 10 ** 8, seed=seed))
    return mixed(coins, ((1, many),) * many)


class Always(Case):
    def test_minors(self):
        seen = {True: 0, False: 0}
        for row in ROWS:
            told = always(row)
            self.assertIs(told, right_always(row), row.counts)
            seen[told] += 1
        self.assertGreater(min(seen.values()), 50)

    def test_coins_and_their_mixtures(self):
        for draws in range(1, 6):
            for many in range(1, 9):
                self.assertIs(always(coin_mixture(draws, many, seed=many)), True)
            for chance in ((0, 1), (1, 1), (1, 2), (LONG, 10 ** 30 + 1)):
                self.assertIs(always(coin_row(chance, draws)), True)

    def test_a_little_beside_the_edge(self):
        # Of one or two coins, nothing can be taken from the edge.
        for draws in range(2, 6):
            for top in (1, 10 ** 7, 5 * 10 ** 7, 10 ** 8 - 1):
                counts = coin_row((top, 10 ** 8 + 37), draws).counts
                self.assertIs(always(Row(counts)), True)
                for at in range(draws + 1):
                    more = list(counts)
                    more[at] += 1
                    self.assertIs(always(Row(tuple(more))), right_always(Row(tuple(more))))
            less = list(coin_row((10 ** 7, 10 ** 8 + 37), draws).counts)
            less[0] -= 1
            self.assertIs(always(Row(tuple(less))), False)

    def test_one_draw(self):
        for counts in ((1, 0), (0, 1), (5, 3), (LONG, 10 ** 40)):
            self.assertIs(always(Row(counts)), True)
            self.assertIsNone(greatest(Row(counts)))

    def test_rows_that_are_always_the_same(self):
        for draws in range(2, 6):
            for yes in range(1, draws):
                row = Row(tuple(int(k == yes) for k in range(draws + 1)))
                self.assertIs(always(row), False)
                self.assertEqual(greatest(row), draws)

    def test_rates_of_nothing_and_all(self):
        for draws in range(1, 6):
            for ends in ((1, 0), (0, 1), (1, 1), (LONG, 3)):
                row = Row((ends[0],) + (0,) * (draws - 1) + (ends[1],))
                self.assertIs(always(row), True)
                self.assertIsNone(greatest(row))

    def test_comes_of_all_or_not(self):
        for row in ROWS:
            if always(row):
                for slips in (row.draws, row.draws + 1, 50, LONG, MOST):
                    self.assertTrue(comes(row, slips))
                self.assertTrue(holds(row, ("comes", 10 ** 400)))
            else:
                self.assertFalse(holds(row, ("comes", 10 ** 400)))


class Greatest(Case):
    def check(self, row, right=None):
        """It comes of the greatest, and of no more."""
        told = greatest(row)
        if right is not None:
            self.assertEqual(told, right, row.counts)
        if told is None:
            self.assertTrue(right_always(row))
            return None
        self.assertIs(told.__class__, int)
        self.assertFalse(right_always(row))
        self.assertTrue(holds(row, ("comes", told)))
        self.assertFalse(holds(row, ("comes", told + 1)))
        # What comes and what does not is shown, up to the slips that are answered.
        self.assert_lot(urns(row, min(told, MOST)), row, min(told, MOST))
        if told < MOST:
            self.assert_tells_against(against(row, told + 1), row, told + 1)
        return told

    def test_all_lots_of_points(self):
        most = {2: 9, 3: 8, 4: 8, 5: 8}
        found = 0
        for row in ROWS:
            told = self.check(row)
            if row.draws > 1:
                right = [slips for slips in range(row.draws, most[row.draws] + 1) if tried_lots(row, slips)]
                if told is None or told >= most[row.draws]:
                    self.assertEqual(right[-1], most[row.draws])
                else:
                    self.assertEqual(right, list(range(row.draws, told + 1)))
                    found += 1
        self.assertGreater(found, 100)

    def test_urns_with_both(self):
        for slips in (2, 3, 4, 5, 6, 30, 1000, 10 ** 9, LONG, MOST):
            for draws in range(2, min(slips, 5) + 1):
                for yes in {1, slips // 3, slips // 2, slips - 1} - {0}:
                    self.check(urn_row(slips, yes, draws), slips)

    def test_urns_with_one(self):
        for slips in (2, 5, MOST):
            for draws in range(1, min(slips, 5) + 1):
                self.check(urn_row(slips, 0, draws))
                self.assertIsNone(greatest(urn_row(slips, slips, draws)))

    def test_two_draws_of_neighbouring_urns(self):
        for slips in (5, 100, 10 ** 12, MOST):
            yes = slips // 3
            row = urns_row(slips, ((yes, (2, 5)), (yes + 1, (3, 5))), 2)
            self.assertGreaterEqual(self.check(row), slips)

    def test_known_ones(self):
        self.check(Row((1, 3, 1)), 6)
        self.check(Row((10, 21, 10)), 42)
        self.check(Row((10 ** 9, 2 * 10 ** 9 + 1, 10 ** 9)), 4000000002)
        self.check(Row((1, 2, 1)))

    def test_fewer_draws_come_of_no_less(self):
        for row in ROWS:
            told = greatest(row)
            for draws in range(1, row.draws):
                other = greatest(fewer(row, draws))
                if told is None:
                    self.assertIsNone(other)
                elif other is not None:
                    self.assertGreaterEqual(other, told)

    def test_swapped(self):
        for row in ROWS:
            self.assertEqual(greatest(swapped(row)), greatest(row))

    def test_mixed_with_a_coin(self):
        for row in [row for row in ROWS if greatest(row) is not None][:60]:
            both = mixed((row, coin_row((1, 3), row.draws)), ((1, 2), (1, 2)))
            told = self.check(both)
            if told is not None:
                self.assertGreaterEqual(told, greatest(row))

    def test_counts_of_forty_figures(self):
        pick = picker(21)
        great = 0
        for _ in range(120):
            draws = 2 + pick(4)
            counts = list(coin_row((1 + pick(10 ** 8), 10 ** 8 + 37), draws).counts)
            counts[pick(draws + 1)] += 1 - 2 * pick(2)
            told = self.check(Row(tuple(counts)))
            great += told is not None and told > 10 ** 7
        self.assertGreater(great, 20)

    def test_above_what_is_asked_of_slips(self):
        # One more than for a coin, among ten to the 40th.
        least = 10 ** 40
        for counts in ((least, 2 * least + 1, least), (least ** 2, 2 * least * 3 + 1, 9)):
            row = Row(counts)
            told = self.check(row)
            if told is not None:
                self.assertGreater(told, MOST)
                self.assertTrue(comes(row, MOST))
        self.assertEqual(greatest(Row((least, 2 * least + 1, least))), 4 * least + 2)

    def test_counts_of_a_thousand_figures(self):
        great = 10 ** 998
        self.assertTrue(greatest(Row((great, 2 * great + 1, great))) == 4 * great + 2)
        self.assertIsNone(greatest(Row((great, 2 * great - 1, great))))
        row = Row((great, 3 * great + 1, 3 * great, great))
        told = greatest(row)
        self.assertTrue(holds(row, ("comes", told)) and holds(row, ("misses", told + 1)))

    def test_by_position_and_by_name(self):
        for row in ROWS[::9]:
            self.assertEqual(greatest(row=row), greatest(row))
            self.assertIs(always(row=row), always(row))

    def test_the_row_stays(self):
        for row in ROWS[::9]:
            before = (row.counts, row.text)
            greatest(row)
            always(row)
            self.assertEqual((row.counts, row.text), before)


if __name__ == "__main__":
    unittest.main()
