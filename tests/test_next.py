"""next_chances and next_yes: held against trying all lots of few urns, and
against rows of one draw more that come of the slips or do not."""

import unittest
from fractions import Fraction
from math import comb

from drawnmore.errors import NoChance, NoUrns
from drawnmore.extending import comes, highest_points, lowest_points, row_sums, shares_on
from drawnmore.further import next_chances, next_yes
from drawnmore.making import all_yes, behind, coin_row, fewer, mixed, swapped, urn_row, urns_row
from drawnmore.rows import Row
from tests.helper import (
    MOST, Case, great_lots, longer, lot_rows, pair, picker, plain, product_at, sign_of, small_rows, some_fractions,
    some_rows, tried_lots, urn_rates,
)

TRIED = {1: 8, 2: 9, 3: 8, 4: 8, 5: 8}
ROWS = [*small_rows(2, 3), *small_rows(3, 2), *some_rows(60), *lot_rows(160, 9)]
LONG = 123456789012345678901234567890
LITTLE = Fraction(1, 10 ** 75)


class NextChances(Case):
    def check(self, row, slips):
        """Both ends are reached by a row of one draw more that comes of the slips, and nothing beyond is."""
        least, most = next_chances(row, slips)
        for chance in (least, most):
            self.assert_fraction(chance, Fraction(*chance))
        least, most = Fraction(*least), Fraction(*most)
        self.assertLessEqual(0, least)
        self.assertLessEqual(least, most)
        for chance, way in ((least, -1), (most, 1)):
            if row.draws < 5:
                self.assert_reached(row, slips, chance, way)
            else:
                self.assert_on_points(row, slips, chance, way)
        return least, most

    def assert_reached(self, row, slips, chance, way):
        more = longer(row, pair(chance))
        self.assertEqual(fewer(more, row.draws), row)
        self.assertTrue(comes(more, slips))
        beyond = longer(row, pair(chance + way * LITTLE))
        self.assertFalse(beyond is not None and comes(beyond, slips))

    def assert_on_points(self, row, slips, chance, way):
        # Rows of six draws are not made: the points are looked at themselves.
        sums = row_sums(row.counts, slips)
        points = lowest_points(sums, 6, slips) if way < 0 else highest_points(sums, 6, slips)
        self.assertEqual(len(set(points)), 6)
        self.assertEqual(sign_of(points, slips), -way)
        self.assertTrue(all(product_at(points, at) * way <= 0 for at in (0, slips)))
        lot = shares_on(sums, points)
        self.assert_lot(lot, row, slips)
        self.assertTrue({yes for yes, _ in lot} <= set(points))
        right = sum(Fraction(*share) * Fraction(comb(yes, 6), comb(slips, 6)) for yes, share in lot)
        self.assertEqual(chance, right)

    def test_all_lots_of_points(self):
        found = 0
        for row in ROWS:
            for slips in range(row.draws + 1, TRIED[row.draws] + 1):
                lots = tried_lots(row, slips)
                if not lots:
                    self.assert_raises(NoUrns, None, next_chances, row, slips)
                    continue
                many = row.draws + 1
                chances = [
                    sum(share * Fraction(comb(yes, many), comb(slips, many)) for yes, share in lot.items())
                    for lot in lots
                ]
                self.assertEqual(next_chances(row, slips), (pair(min(chances)), pair(max(chances))))
                found += min(chances) < max(chances)
        self.assertGreater(found, 200)

    def test_five_draws_of_ten_slips(self):
        pick = picker(32)
        for _ in range(60):
            sums = [Fraction(0)] * 6
            for _ in range(1 + pick(6)):
                weight = (1, 1, 2, 10 ** 9)[pick(4)]
                sums = [one + weight * two for one, two in zip(sums, urn_rates(10, pick(11), 5))]
            row = Row(plain(sums))
            chances = [
                sum(share * Fraction(comb(yes, 6), comb(10, 6)) for yes, share in lot.items())
                for lot in tried_lots(row, 10)
            ]
            self.assertEqual(next_chances(row, 10), (pair(min(chances)), pair(max(chances))))

    def test_beyond_is_nothing(self):
        for row in ROWS[::4]:
            for slips in (row.draws + 1, row.draws + 4, 30, MOST):
                if comes(row, slips):
                    self.check(row, slips)

    def test_thirty_figures(self):
        for slips in (LONG, MOST - 1, MOST):
            for row in great_lots(40, slips, slips % 101):
                self.check(row, slips)

    def test_counts_of_forty_figures(self):
        pick = picker(31)
        found = 0
        for _ in range(60):
            draws = 1 + pick(5)
            counts = [count + pick(3) for count in coin_row((1 + pick(10 ** 8), 10 ** 8 + 37), draws).counts]
            row = Row(tuple(counts))
            for slips in (draws + 1, 10 ** 6, 10 ** 9, MOST):
                if comes(row, slips):
                    self.check(row, slips)
                    found += 1
        self.assertGreater(found, 60)

    def test_an_urn_that_is_alone(self):
        for slips in (3, 6, 7, 10 ** 9, LONG, MOST):
            for draws in range(2, min(slips, 6)):
                for yes in {1, slips // 2, slips - 1}:
                    chance = all_yes(urn_row(slips, yes, draws), draws)
                    right = Fraction(*chance) * Fraction(max(yes - draws, 0), slips - draws)
                    told = next_chances(urn_row(slips, yes, draws), slips)
                    self.assertEqual(told, (pair(right), pair(right)))

    def test_one_draw(self):
        # The mean is on two neighbours at least, on nothing and all at most.
        for counts in ((1, 0), (0, 1), (1, 1), (2, 3), (1, 10 ** 40), (LONG, 7)):
            chance = Fraction(counts[1], sum(counts))
            for slips in (2, 3, 10, LONG, MOST):
                low = chance * slips // 1
                part = chance * slips - low
                least = (low * (low - 1) * (1 - part) + (low + 1) * low * part) / (slips * (slips - 1))
                self.assertEqual(next_chances(Row(counts), slips), (pair(least), pair(chance)))

    def test_one_slip_more_than_draws(self):
        for row in ROWS[::3]:
            if comes(row, row.draws + 1):
                self.check(row, row.draws + 1)
            else:
                self.assert_raises(NoUrns, None, next_chances, row, row.draws + 1)

    def test_more_slips_leave_less(self):
        for row in [coin_row(chance, draws) for draws in range(1, 6) for chance in some_fractions(4, 50, seed=draws)]:
            ends = [next_chances(row, slips) for slips in (6, 7, 9, 20, 10 ** 6, MOST)]
            for (one, two), (three, four) in zip(ends, ends[1:]):
                self.assertLessEqual(Fraction(*one), Fraction(*three))
                self.assertLessEqual(Fraction(*four), Fraction(*two))
                # The coin itself goes on.
                right = Fraction(row.counts[-1], sum(row.counts)) * Fraction(*all_yes(row, 1))
                self.assertTrue(Fraction(*three) <= right <= Fraction(*four))

    def test_by_position_and_by_name(self):
        row = Row((1, 2, 1))
        for told in (next_chances(row, 4), next_chances(row=row, slips=4), next_chances(slips=4, row=row)):
            self.assertEqual(told, ((1, 12), (1, 6)))

    def test_no_urns(self):
        for slips in (3, 4, 100, MOST):
            self.assert_raises(NoUrns, None, next_chances, Row((0, 1, 0)), slips)
        self.assert_raises(NoUrns, None, next_chances, Row((1, 4, 1)), 5)
        self.assertEqual(next_chances(Row((1, 4, 1)), 4), ((0, 1), (0, 1)))


class NextYes(Case):
    def check(self, row, yes, slips):
        least, most = next_yes(row, yes, slips)
        for chance in (least, most):
            self.assert_fraction(chance, Fraction(*chance))
        self.assertTrue(0 <= Fraction(*least) <= Fraction(*most) <= 1)
        return least, most

    def test_all_lots_of_points(self):
        found = 0
        for row in ROWS:
            for slips in range(row.draws + 1, TRIED[row.draws] + 1):
                lots = tried_lots(row, slips)
                for yes in range(row.draws + 1):
                    if not lots:
                        self.assert_raises(NoUrns, None, next_yes, row, yes, slips)
                    elif row.counts[yes] == 0:
                        self.assert_raises(NoChance, None, next_yes, row, yes, slips)
                    else:
                        self.assertEqual(next_yes(row, yes, slips), self.tried(row, yes, slips, lots))
                        found += 1
        self.assertGreater(found, 1000)

    def tried(self, row, yes, slips, lots):
        """Behind the draws of each urn: its yes slips that are left, out of all that are left."""
        chances = []
        for lot in lots:
            whole = hits = Fraction(0)
            for many, share in lot.items():
                told = share * comb(many, yes) * comb(slips - many, row.draws - yes)
                whole += told
                hits += told * Fraction(many - yes, slips - row.draws)
            chances.append(hits / whole)
        return pair(min(chances)), pair(max(chances))

    def test_rows_of_one_draw_more(self):
        rows = [*great_lots(40, MOST, 35), *[mixed((coin_row((1, 3), n), coin_row((3, 4), n)), ((1, 2), (1, 2)))
                                             for n in range(1, 5)]]
        for row in [row for row in rows if row.draws < 5]:
            ends = [longer(row, chance) for chance in next_chances(row, MOST)]
            for yes in [yes for yes in range(row.draws + 1) if row.counts[yes]]:
                chances = [Fraction(*behind(more, row.draws, yes).rates[1]) for more in ends]
                told = self.check(row, yes, MOST)
                self.assertEqual(told, (pair(min(chances)), pair(max(chances))))

    def test_all_yes(self):
        for row in [row for row in ROWS if row.counts[-1] and comes(row, 9)]:
            right = [Fraction(*chance) / Fraction(*row.rates[-1]) for chance in next_chances(row, 9)]
            self.assertEqual(self.check(row, row.draws, 9), (pair(right[0]), pair(right[1])))

    def test_swapped(self):
        for row in ROWS:
            for slips in (row.draws + 1, 9, MOST):
                if comes(row, slips):
                    for yes in [yes for yes in range(row.draws + 1) if row.counts[yes]]:
                        least, most = self.check(row, yes, slips)
                        other = next_yes(swapped(row), row.draws - yes, slips)
                        self.assertEqual(other, (pair(1 - Fraction(*most)), pair(1 - Fraction(*least))))

    def test_urns(self):
        for slips in (6, 7, 1000, LONG, MOST):
            for draws in range(2, 6):
                for many in {1, 2, slips // 2, slips - 1}:
                    row = urn_row(slips, many, draws)
                    for yes in [yes for yes in range(draws + 1) if row.counts[yes]]:
                        right = pair(Fraction(many - yes, slips - draws))
                        self.assertEqual(next_yes(row, yes, slips), (right, right))

    def test_an_urn_and_one_of_another_lot(self):
        row = urns_row(MOST, ((0, (1, 2)), (MOST, (1, 2))), 5)
        self.assertEqual(next_yes(row, 5, MOST), ((1, 1), (1, 1)))
        self.assertEqual(next_yes(row, 0, MOST), ((0, 1), (0, 1)))
        self.assert_raises(NoChance, None, next_yes, row, 3, MOST)

    def test_by_position_and_by_name(self):
        row = Row((1, 2, 1))
        for told in (next_yes(row, 2, 4), next_yes(row=row, yes=2, slips=4), next_yes(slips=4, yes=2, row=row)):
            self.assertEqual(told, ((1, 3), (2, 3)))

    def test_no_urns_ahead_of_no_chance(self):
        self.assert_raises(NoUrns, None, next_yes, Row((0, 1, 0)), 0, 3)
        self.assert_raises(NoUrns, None, next_yes, Row((0, 1, 0)), 1, 3)
        self.assert_raises(NoChance, None, next_yes, Row((1, 0, 1)), 1, 3)
        self.assert_raises(NoChance, None, next_yes, Row((1, 0)), 1, MOST)

    def test_the_row_stays(self):
        for row in ROWS[::9]:
            before = (row.counts, row.text)
            for slips in (row.draws + 1, MOST):
                for call in (lambda: next_chances(row, slips), lambda: next_yes(row, 0, slips)):
                    try:
                        self.assertEqual(call(), call())
                    except (NoUrns, NoChance):
                        pass
            self.assertEqual((row.counts, row.text), before)


if __name__ == "__main__":
    unittest.main()
