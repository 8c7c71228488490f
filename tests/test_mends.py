"""holds and mends: held against wishes told by themselves, and against trying
all sets of changes."""

import unittest
from collections import Counter
from fractions import Fraction
from itertools import combinations

from drawnmore.errors import InvalidText
from drawnmore.extending import always, greatest
from drawnmore.making import coin_row, fewer, mixed, swapped, urn_row, urns_row
from drawnmore.mends import holds, mends
from drawnmore.rows import Row
from tests.helper import MOST, Case, lot_rows, picker, rates, small_rows, some_rows, tried_lots

ROWS = [*small_rows(2, 3), *some_rows(60), *lot_rows(60, 8)]
LONG = 123456789012345678901234567890


def right_holds(row, wish):
    """What a wish asks, by other means where numbers are small."""
    if wish[0] == "always":
        return always(row)
    if wish[0] == "likely":
        rate = rates(row)[wish[1]] if wish[1] <= row.draws else 0
        return rate >= Fraction(*wish[2])
    most = greatest(row)
    told = row.draws <= wish[1] and (most is None or wish[1] <= most)
    if row.draws <= wish[1] <= 7:
        told = len(tried_lots(row, wish[1])) > 0
    return told if wish[0] == "comes" else not told


def right_mends(row, wishes, changes):
    """All sets of changes, then those that mend and have no proper part that does."""
    mending = []
    for many in range(len(changes) + 1):
        for some in combinations(range(len(changes)), many):
            lines = row.text.split("\n")
            if len({changes[at][0] for at in some}) < many:
                continue
            for at in some:
                lines[changes[at][0]] = changes[at][1]
            text = "\n".join(line for line in lines if line)
            try:
                other = Row.read(text)
            except InvalidText:
                continue
            if all(right_holds(other, wish) for wish in wishes):
                mending.append(some)
    least = [some for some in mending if not any(set(part) < set(some) for part in mending)]
    return tuple(sorted(least, key=lambda some: (len(some), some)))


def some_wishes(pick, row):
    """A few wishes, the first of which does mostly not hold yet."""
    most = greatest(row) or 7
    rate = ((0, 1), (1, 2), (1, 10), (-1, 2), (1, 10 ** 30))[pick(5)]
    first = (("comes", most + 1), ("always",), ("comes", MOST), ("misses", most), ("likely", row.draws, (1, 3)))[pick(5)]
    others = (("likely", pick(7), rate), ("misses", 10 ** 40), ("comes", row.draws), ("comes", 2))
    return (first, others[pick(4)])[:pick(3)]


def some_changes(pick, row):
    """Up to six changes: of counts, of the draws, and lines that are taken out or spoiled."""
    found = []
    for _ in range(2 + pick(5)):
        at = pick(row.draws + 2)
        if at == 0:
            news = [f"draws {row.draws - 1}", f"draws {row.draws}", "x"]
        else:
            news = [f"yes {at - 1} {count}" for count in (0, 1, 2, 3, 5, 8, 10 ** 40, 10 ** 40 + 1)]
            news += [""] * (at == row.draws + 1) * 4 + [f"yes {at} 1", " ", ""]
        found.append((at, news[pick(len(news))]))
    return tuple(found)


class Holds(Case):
    def check(self, row, wish, right):
        for told in (holds(row, wish), holds(row=row, wish=wish), holds(wish=wish, row=row)):
            self.assertIs(told, right, (row.counts, wish))

    def test_comes_and_misses(self):
        for row in ROWS:
            for slips in (1, 2, 3, 4, 5, 6, 7, 100, LONG, MOST):
                told = right_holds(row, ("comes", slips))
                self.check(row, ("comes", slips), told)
                self.check(row, ("misses", slips), not told)

    def test_never_below_the_draws(self):
        for draws in range(1, 6):
            row = coin_row((1, 3), draws)
            for slips in range(1, 6):
                self.check(row, ("comes", slips), slips >= draws)
                self.check(row, ("misses", slips), slips < draws)

    def test_more_slips_than_are_asked_for(self):
        for slips in (MOST + 1, 10 ** 40, 4 * 10 ** 40 + 2, 4 * 10 ** 40 + 3, 10 ** 999):
            row = Row((10 ** 40, 2 * 10 ** 40 + 1, 10 ** 40))
            self.check(row, ("comes", slips), slips <= 4 * 10 ** 40 + 2)
            self.check(row, ("misses", slips), slips > 4 * 10 ** 40 + 2)
            self.check(coin_row((LONG, MOST + 1), 5), ("comes", slips), True)
            self.check(urn_row(MOST, LONG, 5), ("misses", slips), True)

    def test_always(self):
        for row in ROWS:
            self.check(row, ("always",), always(row))
        self.check(coin_row((1, 3), 5), ("always",), True)
        self.check(urn_row(MOST, 7, 5), ("always",), False)

    def test_likely(self):
        for row in ROWS:
            for yes, rate in enumerate(rates(row)):
                top, bottom = rate.numerator, rate.denominator
                self.check(row, ("likely", yes, (top, bottom)), True)
                for more in (Fraction(1, 10 ** 30), Fraction(1, 2), Fraction(5)):
                    above, below = rate + more, rate - more
                    self.check(row, ("likely", yes, (above.numerator, above.denominator)), False)
                    self.check(row, ("likely", yes, (below.numerator, below.denominator)), True)

    def test_likely_above_the_draws(self):
        for row in ROWS[::5]:
            for yes in (row.draws + 1, row.draws + 2, 10 ** 40, 10 ** 999):
                for rate, right in (((0, 1), True), ((-1, 3), True), ((1, 10 ** 40), False), ((1, 1), False)):
                    self.check(row, ("likely", yes, rate), right)

    def test_rows_of_all_kinds(self):
        row = urns_row(9, ((2, (1, 3)), (5, (2, 3))), 4)
        for other in (row, fewer(row, 3), swapped(row), mixed((row, coin_row((1, 2), 4)), ((1, 2), (1, 2)))):
            self.check(other, ("comes", 9), True)

    def test_the_row_and_the_wish_stay(self):
        row, wish = Row((1, 4, 1)), ("likely", 1, (2, 3))
        self.assertTrue(holds(row, wish) and holds(row, wish))
        self.assertEqual([row.counts, wish], [(1, 4, 1), ("likely", 1, (2, 3))])


class Mends(Case):
    def check(self, row, wishes, changes, right):
        before = (row.counts, wishes, changes)
        told = mends(row, wishes, changes)
        self.assertEqual(told, right, before)
        self.assertEqual(mends(row=row, wishes=wishes, changes=changes), right)
        self.assertEqual(mends(changes=changes, row=row, wishes=wishes), right)
        self.assertIs(told.__class__, tuple)
        for some in told:
            self.assertEqual([some.__class__, *[at.__class__ for at in some]], [tuple] + [int] * len(some))
        self.assertEqual((row.counts, wishes, changes), before)

    def test_all_sets_of_changes(self):
        pick = picker(71)
        found = Counter()
        for row in ROWS * 4:
            wishes, changes = some_wishes(pick, row), some_changes(pick, row)
            right = right_mends(row, wishes, changes)
            self.check(row, wishes, changes, right)
            for some in right:
                found[len(some)] += 1
        self.assertGreater(min(found[many] for many in range(3)), 9)

    def test_nothing_to_mend(self):
        row = Row((1, 2, 1))
        changes = ((1, "yes 0 5"), (0, ""), (2, "yes 1 1"))
        for wishes in ((), (("always",),), (("comes", 7), ("likely", 1, (1, 2)))):
            self.check(row, wishes, changes, ((),))
            self.check(row, wishes, (), ((),))

    def test_nothing_mends(self):
        row = Row((1, 4, 1))
        self.check(row, (("always",),), (), ())
        self.check(row, (("always",),), ((2, "yes 1 3"), (0, "")), ())
        self.check(row, (("comes", 4), ("misses", 4)), ((1, "yes 0 2"), (2, "yes 1 1")), ())

    def test_a_set_without_its_parts(self):
        # Each alone mends; both together are no least set.
        row = Row((1, 4, 1))
        self.check(row, (("comes", 5),), ((1, "yes 0 9"), (2, "yes 1 2"), (3, "yes 2 9")), ((0,), (1,), (2,)))

    def test_parts_that_are_not_smaller_by_one_only(self):
        # One mends, a pair with it does not, all three would again.
        row = Row((1, 4, 1))
        changes = ((2, "yes 1 2"), (1, "yes 0 0"), (3, "yes 2 0"))
        self.check(row, (("always",),), changes, ((0,),))
        self.assertFalse(always(row.changed(changes[:2])))

    def test_changes_that_need_one_another(self):
        row = Row((0, 1, 5, 1))
        changes = ((0, "draws 2"), (4, ""), (4, "yes 3 1"), (3, ""), (0, "draws 1"))
        self.check(row, (("comes", 9),), changes, ((0, 1), (1, 3, 4)))
        # Two changes of one line are not in one set, though both would be used.
        self.check(row, (("comes", 10 ** 9),), changes, ((1, 3, 4),))

    def test_equal_changes(self):
        row = Row((1, 4, 1))
        one = (2, "yes 1 2")
        self.check(row, (("always",),), (one,) * 6, ((0,), (1,), (2,), (3,), (4,), (5,)))
        self.check(row, (("always",),), (one, (1, "yes 0 2"), one, (3, "yes 2 2")), ((0,), (2,), (1, 3)))

    def test_the_same_line(self):
        row = Row((1, 4, 1))
        changes = ((2, "yes 1 2"), (2, "yes 1 1"), (2, "yes 1 3"), (2, ""), (2, "x"))
        self.check(row, (("always",),), changes, ((0,), (1,)))

    def test_in_order_of_how_many_then_ascending(self):
        row = Row((1, 4, 1))
        changes = ((1, "yes 0 2"), (3, "yes 2 2"), (1, "yes 0 3"), (3, "yes 2 3"), (2, "yes 1 2"), (1, "yes 0 3"))
        self.check(row, (("always",),), changes, ((4,), (0, 1), (0, 3), (1, 2), (1, 5), (2, 3), (3, 5)))

    def test_a_change_of_nothing(self):
        row = Row((1, 4, 1))
        self.check(row, (("comes", 4),), ((1, "yes 0 1"), (0, "draws 2")), ((),))

    def test_six_changes(self):
        row = Row((0, 1, 0, 0, 0, 0))
        changes = tuple((at, f"yes {at - 1} 1") for at in range(1, 7))
        self.check(row, (("comes", 5),), changes, ((),))
        self.check(row, (("comes", 6),), changes, right_mends(row, (("comes", 6),), changes))
        self.check(row, (("always",),), changes, right_mends(row, (("always",),), changes))

    def test_great_numbers(self):
        great = 10 ** 40
        row = Row((great, 2 * great + 1, great))
        changes = ((1, f"yes 0 {great + 1}"), (2, f"yes 1 {2 * great}"), (3, f"yes 2 {great + 1}"))
        self.check(row, (("always",),), changes, ((1,), (0, 2)))
        self.check(row, (("comes", 4 * great + 2),), changes, ((),))
        self.check(row, (("comes", 4 * great + 3), ("likely", 0, (1, 4))), changes, ((0,), (1,)))
        self.check(row, (("comes", MOST), ("likely", 1, (1, 2)), ("misses", 10 ** 50)), changes, ((),))

    def test_likely_ones_that_are_taken_out(self):
        row = Row((1, 1, 1))
        changes = ((0, "draws 1"), (3, ""), (1, "yes 0 0"))
        self.check(row, (("likely", 1, (1, 2)),), changes, ((2,), (0, 1)))
        self.check(row, (("likely", 2, (1, 2)),), changes, ((2,),))
        self.check(row, (("likely", 1, (1, 1)),), changes, ((0, 1, 2),))

    def test_many_wishes(self):
        row = Row((1, 4, 1))
        wishes = tuple(("comes", slips) for slips in range(2, 40))
        self.check(row, wishes, ((2, "yes 1 2"), (1, "yes 0 2")), ((0,),))


if __name__ == "__main__":
    unittest.main()
