"""most_share, least_share and stretch: held against trying all lots of few urns,
and, with great numbers, against what comes of the slips at each end and beyond."""

import unittest
from fractions import Fraction

from drawnmore.errors import NoUrns, OtherDraws
from drawnmore.extending import comes, urns
from drawnmore.further import least_share, most_share, stretch
from drawnmore.making import coin_row, mixed, swapped, urn_row, urns_row
from drawnmore.rows import Row
from tests.helper import (
    MOST, Case, great_lots, lot_rows, pair, picker, rates, row_of, small_rows, some_fractions, some_rows, tried_lots,
    urn_rates,
)

TRIED = {1: 7, 2: 8, 3: 7, 4: 7, 5: 7}
ROWS = [*small_rows(2, 3), *some_rows(50), *lot_rows(120, 8)]
LONG = 123456789012345678901234567890
LITTLE = Fraction(1, 10 ** 9)


class MostShare(Case):
    def check(self, row, slips, yes):
        """With this share the others make a row that comes of the slips, with more they don't."""
        share = most_share(row, slips, yes)
        self.assert_fraction(share, Fraction(*share))
        share = Fraction(*share)
        self.assertTrue(0 <= share <= 1)
        self.assertTrue(self.leaves(row, slips, yes, share))
        self.assertFalse(self.leaves(row, slips, yes, share + LITTLE * (share or Fraction(1, 10 ** 99))))
        return share

    def leaves(self, row, slips, yes, share):
        """Whether what is left of the row beside this share of the urn comes of the slips."""
        left = [one - share * two for one, two in zip(rates(row), urn_rates(slips, yes, row.draws))]
        if share == 1:
            return not any(left)
        others = row_of(left) if share < 1 else None
        return others is not None and comes(others, slips)

    def test_all_lots_of_points(self):
        found = {"none": 0, "some": 0, "all": 0}
        for row in ROWS:
            for slips in range(row.draws, TRIED[row.draws] + 1):
                lots = tried_lots(row, slips)
                for yes in range(slips + 1):
                    if not lots:
                        self.assert_raises(NoUrns, None, most_share, row, slips, yes)
                        continue
                    right = max(lot.get(yes, Fraction(0)) for lot in lots)
                    self.assertEqual(most_share(row, slips, yes), pair(right), (row.counts, slips, yes))
                    found["none" if right == 0 else "all" if right == 1 else "some"] += 1
        self.assertGreater(min(found.values()), 30)

    def test_ends_are_ends(self):
        for row in ROWS[::5]:
            for slips in (row.draws, row.draws + 3, 40, MOST):
                if comes(row, slips):
                    for yes in {0, 1, slips // 2, slips - 1, slips}:
                        self.check(row, slips, yes)

    def test_as_many_slips_as_draws(self):
        for row in ROWS[::3]:
            for yes in range(row.draws + 1):
                self.assertEqual(most_share(row, row.draws, yes), row.rates[yes])

    def test_thirty_figures(self):
        for slips in (LONG, MOST - 1, MOST):
            for row in great_lots(25, slips, slips % 103):
                for yes in (0, slips // 2 + 1, slips, *[yes for yes, _ in urns(row, slips)][:2]):
                    self.check(row, slips, yes)

    def test_the_lots_that_are_found_have_no_more(self):
        for row in great_lots(60, MOST, 41):
            for yes, share in urns(row, MOST):
                self.assertLessEqual(Fraction(*share), self.check(row, MOST, yes))

    def test_counts_of_forty_figures(self):
        pick = picker(42)
        for _ in range(40):
            draws = 1 + pick(5)
            row = mixed((coin_row((1 + pick(10 ** 8), 10 ** 8 + 37), draws), coin_row((1, 3), draws)), ((1, 2), (1, 2)))
            for slips in (draws + 2, 10 ** 9, MOST):
                self.check(row, slips, pick(slips + 1))

    def test_urns(self):
        for slips in (5, 6, 1000, MOST):
            for draws in range(2, 6):
                for yes in {1, slips // 2, slips}:
                    row = urn_row(slips, yes, draws)
                    for other in {0, 1, 2, slips // 2 - 1, slips // 2, slips // 2 + 1, slips - 1, slips}:
                        self.assertEqual(most_share(row, slips, other), (int(yes == other), 1))

    def test_one_draw(self):
        # An urn with more yes than the mean needs none beside it for the rest.
        for counts in ((1, 0), (0, 1), (1, 1), (2, 3), (LONG, 7)):
            chance = Fraction(counts[1], sum(counts))
            for slips in (1, 2, 5, LONG, MOST):
                for yes in {0, 1, slips // 3, slips - 1, slips}:
                    part = Fraction(yes, slips)
                    right = min([Fraction(1), *[chance / part for _ in [0] if yes],
                                 *[(1 - chance) / (1 - part) for _ in [0] if yes < slips]])
                    self.assertEqual(most_share(Row(counts), slips, yes), pair(right))

    def test_swapped(self):
        for row in ROWS[::2]:
            for slips in (row.draws, row.draws + 2, MOST):
                if comes(row, slips):
                    for yes in {0, 1, slips // 3, slips}:
                        right = most_share(row, slips, yes)
                        self.assertEqual(most_share(swapped(row), slips, slips - yes), right)

    def test_known_ones(self):
        self.assertEqual(most_share(Row((1, 2, 1)), MOST, 0), (1, MOST + 2))
        self.assertEqual(most_share(Row((1, 0, 0, 0, 0, 1)), MOST, MOST), (1, 2))
        self.assertEqual(most_share(Row((1, 0, 0, 0, 0, 1)), MOST, 1), (0, 1))

    def test_by_position_and_by_name(self):
        row = Row((1, 2, 1))
        for told in (most_share(row, 4, 2), most_share(row=row, slips=4, yes=2), most_share(yes=2, slips=4, row=row)):
            self.assertEqual(told, (3, 4))

    def test_no_urns_come_last(self):
        self.assert_raises(NoUrns, None, most_share, Row((0, 1, 0)), 3, 3)
        self.assert_raises(NoUrns, None, most_share, Row((1, 4, 1)), 5, 0)
        self.assertEqual(most_share(Row((0, 1, 0)), 2, 1), (1, 1))


class LeastShare(Case):
    def comes_with(self, row, other, share, slips):
        both = row_of([one + share * (two - one) for one, two in zip(rates(row), rates(other))])
        return both is not None and comes(both, slips)

    def check(self, row, other, slips):
        """With this share the mixture comes of the slips, with less it does not."""
        told = least_share(row, other, slips)
        if told is None:
            shares = [Fraction(k, 24) for k in range(25)]
            self.assertFalse(any(self.comes_with(row, other, share, slips) for share in shares))
            return None
        self.assert_fraction(told, Fraction(*told))
        share = Fraction(*told)
        self.assertTrue(0 <= share <= 1)
        both = mixed((row, other), (pair(1 - share), told))
        self.assertTrue(comes(both, slips))
        if share > 0:
            self.assertFalse(self.comes_with(row, other, share * (1 - LITTLE), slips))
        return share

    def pairs(self, many, seed):
        rows = [*small_rows(2, 2)[::3], *some_rows(many, seed=seed), *lot_rows(many, 8, seed=seed + 1)]
        pick = picker(seed)
        by_draws = {draws: [row for row in rows if row.draws == draws] for draws in range(1, 6)}
        found = []
        for row in rows:
            others = by_draws[row.draws]
            found += [(row, others[pick(len(others))]), (row, coin_row((1, 3), row.draws))]
        return found

    def test_all_lots_of_points(self):
        found = {"none": 0, "some": 0, "nothing": 0}
        for row, other in self.pairs(60, 51):
            for slips in range(row.draws, TRIED[row.draws] + 1):
                share = self.check(row, other, slips)
                if share is None:
                    found["none"] += 1
                    for k in range(7):
                        both = mixed((row, other), (pair(Fraction(6 - k, 6)), pair(Fraction(k, 6))))
                        self.assertEqual(tried_lots(both, slips), [])
                elif share == 0:
                    found["nothing"] += 1
                    self.assertTrue(tried_lots(row, slips))
                else:
                    found["some"] += 1
                    both = mixed((row, other), (pair(1 - share), pair(share)))
                    self.assertTrue(tried_lots(both, slips))
                    less = share * (1 - LITTLE)
                    both = mixed((row, other), (pair(1 - less), pair(less)))
                    self.assertEqual(tried_lots(both, slips), [])
        self.assertGreater(min(found.values()), 30)

    def test_as_many_slips_as_draws(self):
        for row, other in self.pairs(10, 52):
            self.assertEqual(least_share(row, other, row.draws), (0, 1))

    def test_a_row_that_comes_takes_nothing(self):
        for row, other in self.pairs(30, 53):
            for slips in (row.draws + 1, 20, MOST):
                if comes(row, slips):
                    self.assertEqual(least_share(row, other, slips), (0, 1))

    def test_another_that_comes_is_enough(self):
        for row, other in self.pairs(30, 54):
            for slips in (row.draws + 1, 20, MOST):
                if comes(other, slips):
                    self.assertIsNotNone(self.check(row, other, slips))

    def test_all_of_the_other(self):
        # A row at the edge that lies behind all that is mixed.
        for slips in (3, 10, MOST):
            other = urn_row(slips, 1, 2)
            self.assertEqual(least_share(Row((0, 1, 0)), other, slips), (1, 1))
        self.assertEqual(least_share(Row((0, 0, 1, 0)), Row((1, 0, 0, 0)), 4), (1, 1))

    def test_none(self):
        one, two = Row((0, 0, 1, 0)), Row((0, 1, 0, 0))
        self.assertEqual([self.check(one, two, 4), least_share(two, one, 4)], [Fraction(1, 2), (1, 2)])
        for slips in (5, LONG, MOST):
            self.assertIsNone(self.check(one, two, slips))
            self.assertIsNone(self.check(Row((0, 1, 0)), Row((0, 1, 0)), slips))

    def test_between_two_that_do_not_come(self):
        # Both alone do not come of seven slips, but some mixtures do.
        one, two = Row((10, 0, 10, 1)), Row((1, 10, 0, 10))
        found = 0
        for slips in range(4, 12):
            share = self.check(one, two, slips)
            found += share is not None and 0 < share < 1 and not comes(two, slips)
        self.assertGreater(found, 0)

    def test_thirty_figures(self):
        found = 0
        for slips in (LONG, MOST):
            lots = great_lots(40, slips, slips % 107)
            for row in some_rows(40, seed=55):
                for other in [other for other in lots if other.draws == row.draws][:2]:
                    found += self.check(row, other, slips) is not None
        self.assertGreater(found, 60)

    def test_counts_of_forty_figures(self):
        pick = picker(56)
        for _ in range(60):
            draws = 2 + pick(4)
            row = Row((*[pick(10 ** 40) * (pick(3) > 0) for _ in range(draws)], 1 + pick(10 ** 40)))
            for chance in some_fractions(2, 10 ** 8, seed=pick(99)):
                self.check(row, coin_row(chance, draws), MOST)

    def test_by_position_and_by_name(self):
        row, other = Row((0, 1, 0)), Row((1, 0, 1))
        told = [
            least_share(row, other, 4), least_share(row=row, other=other, slips=4),
            least_share(slips=4, other=other, row=row),
        ]
        self.assertEqual(told, [(1, 3)] * 3)

    def test_other_draws_come_last(self):
        for draws in range(1, 6):
            for others in range(1, 6):
                one, two = Row((1,) * (draws + 1)), Row((1,) * (others + 1))
                if draws == others:
                    self.assertEqual(least_share(one, two, 5), (0, 1))
                else:
                    self.assert_raises(OtherDraws, ("given", others), least_share, one, two, 5)


class Stretch(Case):
    def row_with(self, row, yes, count):
        counts = [*row.counts[:yes], count, *row.counts[yes + 1:]]
        return Row(tuple(counts)) if any(counts) else None

    def comes_with(self, row, yes, count, slips):
        if count < 0 or self.row_with(row, yes, count) is None:
            return False
        return comes(self.row_with(row, yes, count), slips)

    def check(self, row, yes, slips):
        """Both ends do, and nothing beyond; of none, none that is tried does."""
        told = stretch(row, yes, slips)
        if told is None:
            for count in (*range(40), row.counts[yes], 2 * sum(row.counts), sum(row.counts) ** 2):
                self.assertFalse(self.comes_with(row, yes, count, slips))
            return None
        least, most = told
        self.assertEqual([told.__class__, least.__class__], [tuple, int])
        self.assertGreaterEqual(least, 0)
        self.assertTrue(self.comes_with(row, yes, least, slips))
        self.assertFalse(self.comes_with(row, yes, least - 1, slips))
        if most is None:
            for more in (1, 2, 1000, 10 ** 100):
                self.assertTrue(self.comes_with(row, yes, least + more, slips))
        else:
            self.assertIs(most.__class__, int)
            self.assertGreaterEqual(most, least)
            self.assertTrue(self.comes_with(row, yes, most, slips))
            self.assertFalse(self.comes_with(row, yes, most + 1, slips))
            self.assertTrue(self.comes_with(row, yes, (least + most) // 2, slips))
        return told

    def test_all_lots_of_points(self):
        tried = {1: 5, 2: 7, 3: 6, 4: 6, 5: 6}
        found = {"none": 0, "endless": 0, "some": 0}
        for row in [*small_rows(2, 3), *lot_rows(60, 8, seed=61), *small_rows(3, 1), *small_rows(4, 1)[::3]]:
            for slips in range(row.draws, tried[row.draws] + 1):
                for yes in range(row.draws + 1):
                    told = self.check(row, yes, slips)
                    found["none" if told is None else "endless" if told[1] is None else "some"] += 1
                    counts = [0, 1, 2, 3, 5, 8, 13, 21]
                    if told is not None:
                        counts += [told[0], told[0] + 1, *[told[1] or 7, (told[1] or 7) + 1]]
                    for count in counts:
                        inside = told is not None and told[0] <= count and (told[1] is None or count <= told[1])
                        other = self.row_with(row, yes, count)
                        right = other is not None and len(tried_lots(other, slips)) > 0
                        self.assertEqual(inside, right, (row.counts, yes, slips, count))
        self.assertGreater(min(found.values()), 100)

    def test_as_many_slips_as_draws(self):
        for row in ROWS[::3]:
            for yes in range(row.draws + 1):
                others = sum(row.counts) - row.counts[yes]
                self.assertEqual(stretch(row, yes, row.draws), (0 if others else 1, None))

    def test_one_draw(self):
        for slips in (1, 2, MOST):
            self.assertEqual(stretch(Row((1, 1)), 0, slips), (0, None))
            self.assertEqual(stretch(Row((0, 1)), 0, slips), (0, None))
            self.assertEqual(stretch(Row((0, 1)), 1, slips), (1, None))

    def test_nothing_beside(self):
        for draws in range(2, 6):
            for yes in range(draws + 1):
                row = Row(tuple(int(k == yes) for k in range(draws + 1)))
                for slips in (draws, draws + 1, MOST):
                    right = (1, None) if slips == draws or yes in (0, draws) else None
                    self.assertEqual(stretch(row, yes, slips), right)

    def test_two_draws(self):
        # The middle count is bounded by both others; they are by it, from below.
        for slips in (3, 4, 5, 100, LONG, MOST):
            for counts in ((1, 0, 1), (3, 5, 7), (0, 1, 4), (LONG, 1, 10 ** 40)):
                for yes in range(3):
                    self.check(Row(counts), yes, slips)
        self.assertEqual(stretch(Row((1, 2, 1)), 1, MOST), (0, 2))
        self.assertEqual(stretch(Row((10 ** 29, 2 * 10 ** 29, 10 ** 29)), 1, MOST), (0, 2))
        self.assertEqual(stretch(Row((0, 1, 1)), 1, 3), (0, 2))

    def test_ends_that_are_no_integers(self):
        # Some fractions would do, but no integer does.
        row = Row((0, 1, 0, 1))
        found = [yes for slips in range(4, 9) for yes in range(4) if self.check(row, yes, slips) is None]
        self.assertGreater(len(found), 0)

    def test_only_nothing_will_do(self):
        # Beside nothing and all yes, each other number needs what is between.
        for draws in range(3, 6):
            ends = Row((1,) + (0,) * (draws - 1) + (1,))
            for yes in range(1, draws):
                self.assertEqual(self.check(ends, yes, MOST), (0, 0))

    def test_thirty_figures(self):
        for slips in (LONG, MOST):
            for row in [*great_lots(25, slips, slips % 109), *some_rows(25, seed=62)]:
                for yes in range(row.draws + 1):
                    if slips >= row.draws:
                        self.check(row, yes, slips)

    def test_counts_of_forty_figures(self):
        pick = picker(63)
        for _ in range(40):
            draws = 1 + pick(5)
            counts = [count + pick(3) for count in coin_row((1 + pick(10 ** 8), 10 ** 8 + 37), draws).counts]
            for slips in (draws, draws + 1, 10 ** 7, MOST):
                self.check(Row(tuple(counts)), pick(draws + 1), slips)

    def test_the_count_that_is_there_is_inside(self):
        for row in [*great_lots(40, MOST, 64), *[coin_row((2, 7), draws) for draws in range(1, 6)]]:
            for yes in range(row.draws + 1):
                least, most = stretch(row, yes, MOST)
                self.assertTrue(least <= row.counts[yes] and (most is None or row.counts[yes] <= most))

    def test_only_plain_counts_matter(self):
        self.assertEqual(stretch(Row((3, 12, 3)), 1, 4), (0, 4))

    def test_by_position_and_by_name(self):
        row = Row((1, 4, 1))
        for told in (stretch(row, 1, 4), stretch(row=row, yes=1, slips=4), stretch(slips=4, yes=1, row=row)):
            self.assertEqual(told, (0, 4))

    def test_the_row_stays(self):
        for row in ROWS[::9]:
            before = (row.counts, row.text)
            stretch(row, 0, 9)
            least_share(row, urns_row(9, ((2, (1, 1)),), row.draws), 9)
            if comes(row, 9):
                most_share(row, 9, 4)
            self.assertEqual((row.counts, row.text), before)


if __name__ == "__main__":
    unittest.main()
