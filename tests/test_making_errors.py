"""The errors of drawnmore.making: each one alone, and several at once."""

import unittest

from drawnmore.errors import InvalidChance, InvalidNumber, InvalidRows, InvalidUrns, NoChance, NotRow
from drawnmore.making import all_yes, behind, coin_row, fewer, mixed, swapped, urn_row, urns_row
from drawnmore.rows import Row
from tests.helper import (
    MOST, CallTable, Case, given, index, nested, no_chances, no_fractions, no_integers, no_numbers, no_rows, unusual,
)

ROW = Row((1, 2, 3, 4))
URNS = ((0, (1, 2)), (3, (1, 3)), (6, (1, 6)))
ROWS = (Row((1, 2)), Row((2, 1)), Row((1, 0)))
SHARES = ((1, 2), (1, 3), (1, 6))


def no_tuples():
    return [*unusual(), 0, 1, -1, 10 ** 999, "", "ab", Row((1, 1))]


def wrong_urns():
    """Wrong lots of urns of six slips, each with the index that is due."""
    found = [(value, None) for value in [*no_tuples(), list(URNS), [], dict(URNS), ROW]]
    no_pairs = [
        *no_integers(), 0, 6, "ab", [4, (1, 6)], (4,), (4, (1, 6), 1), (4, 1, 6), ((1, 6), 4), nested(9),
        (4, (1, 6), (1, 6)), [4, [1, 6]],
    ]
    no_pairs += [(yes, (1, 6)) for yes in no_numbers(0, 6)]
    no_pairs += [(6, share) for share in [*no_fractions(), (0, 1), (-1, 2), (-1, 1)]]
    for value in no_pairs:
        found += [((value,), 0), ((value, *URNS), 0), ((URNS[0], value, *URNS[1:]), 1)]
        found += [((URNS[0], URNS[1], value), 2), ((*URNS, value), 3)]
    # Not ascending.
    found += [
        ((URNS[1], URNS[0]), 1), ((URNS[0], URNS[0]), 1), ((URNS[0], URNS[2], URNS[1]), 2),
        (((3, (1, 2)), (3, (1, 2))), 1), (((6, (1, 2)), (0, (1, 2))), 1),
        (((1, (1, 4)), (2, (1, 4)), (2, (1, 4)), (0, (1, 4))), 2),
    ]
    # Another sum.
    found += [
        ((), None), (URNS[:2], None), (URNS[1:], None), (((0, (1, 2)),), None), (((0, (2, 1)),), None),
        (((0, (1, 2)), (6, (1, 3))), None), ((*URNS[:2], (6, (1, 5))), None),
        (((0, (1, 1)), (1, (1, MOST))), None), (((0, (MOST - 1, MOST)), (1, (1, MOST + 1))), None),
        (((0, (1, 10 ** 999)),), None),
    ]
    # Several at once: an index is due ahead of the sum.
    found += [
        (((0, (2, 1)), (0, (2, 1))), 1), (((0, (2, 1)), (7, (1, 2))), 1), ((None, URNS[1], None), 0),
        ((URNS[1], URNS[1], None), 1), (((-1, (1, 2)), (-2, (1, 2))), 0),
        (((5, (1, 3)), (4, (0, 1)), (3, (1, 3))), 1), ([None], None),
    ]
    return found


def wrong_rows():
    """What cannot be mixed, each with the index that is due."""
    found = [(value, None) for value in [*no_tuples(), list(ROWS), [], (), ROW, ROW.counts[:0]]]
    for value in no_rows():
        found += [((value,), 0), ((value, *ROWS), 0), ((*ROWS, value), 3), ((ROWS[0], value, ROWS[1]), 1)]
    for draws in range(1, 6):
        for others in range(1, 6):
            if draws != others:
                one, two = Row((1,) * (draws + 1)), Row((1,) * (others + 1))
                found += [((one, two), 1), ((one, one, two, one), 2), ((one,) * 7 + (two,), 7)]
                found += [((one, two) * 5, 1), ((one,) * 8 + (two,), 8)]
    found += [((ROWS[0],) * many, 8) for many in (9, 10, 100)]
    # Several at once.
    found += [
        ((ROWS[0],) * 8 + (None, None), 8), ((None,) * 9, 0), ((ROWS[0], None, ROW), 1), ((ROWS[0], ROW, None), 1),
        ((ROWS[0],) * 7 + (ROW, ROWS[0]), 7), ((ROWS[0],) * 3 + ((1, 1),) + (ROWS[0],) * 9, 3), ([None], None),
    ]
    return found


def wrong_shares():
    """Whatever is no tuple of three shares with the sum 1."""
    found = [*no_tuples(), list(SHARES), (), SHARES[:1], SHARES[:2], (*SHARES, (0, 1)), ((1, 1),), nested(10)]
    for value in [*no_fractions(), (-1, 2), (-1, 1), (3, 2), (2, 1), (1, 2), (1, 1), (1, 7)]:
        found += [(value, (1, 3), (1, 6)), ((1, 2), value, (1, 6)), ((1, 2), (1, 3), value)]
    found += [
        ((0, 1), (0, 1), (0, 1)), ((1, 3), (1, 3), (2, 3)), ((1, 1), (1, 1), (-1, 1)), ((3, 2), (-1, 2), (0, 1)),
        ((1, MOST), (MOST - 1, MOST), (1, MOST)), ((1, 10 ** 999), (1, 2), (1, 2)), ROWS,
    ]
    return [shares for shares in found if shares != SHARES]


CALLS = [
    (urn_row, {"slips": 6, "yes": 3, "draws": 2}, {
        "slips": given(InvalidNumber, no_numbers(1, MOST)),
        "yes": given(InvalidNumber, no_numbers(0, 6)),
        "draws": given(InvalidNumber, no_numbers(1, 5)),
    }),
    (urns_row, {"slips": 6, "urns": URNS, "draws": 2}, {
        "slips": given(InvalidNumber, no_numbers(1, MOST)),
        "urns": index(InvalidUrns, wrong_urns()),
        "draws": given(InvalidNumber, no_numbers(1, 5)),
    }),
    (coin_row, {"chance": (1, 3), "draws": 2}, {
        "chance": given(InvalidChance, no_chances()),
        "draws": given(InvalidNumber, no_numbers(1, 5)),
    }),
    (mixed, {"rows": ROWS, "shares": SHARES}, {
        "rows": index(InvalidRows, wrong_rows()),
        "shares": given(InvalidChance, wrong_shares()),
    }),
    (all_yes, {"row": ROW, "yes": 2}, {
        "row": given(NotRow, no_rows()),
        "yes": given(InvalidNumber, no_numbers(0, 3)),
    }),
    (swapped, {"row": ROW}, {"row": given(NotRow, no_rows())}),
    (fewer, {"row": ROW, "draws": 2}, {
        "row": given(NotRow, no_rows()),
        "draws": given(InvalidNumber, [*no_numbers(1, 3), 0, 4, 5, 6]),
    }),
    (behind, {"row": ROW, "draws": 2, "yes": 1}, {
        "row": given(NotRow, no_rows()),
        "draws": given(InvalidNumber, [*no_numbers(1, 2), 0, 3, 4, 5, 6]),
        "yes": given(InvalidNumber, no_numbers(0, 2)),
    }),
]


class Calls(CallTable, Case):
    CALLS = CALLS

    def test_right_arguments(self):
        for call, right, _ in CALLS:
            self.assertEqual(call(**right), call(*right.values()))


class Bounds(Case):
    """What is just right, and just wrong."""

    def test_slips(self):
        for slips in (1, MOST):
            self.assertEqual(urn_row(slips, 0, 1), Row((1, 0)))
            self.assertEqual(urns_row(slips, ((0, (1, 1)),), 1), Row((1, 0)))
        for slips in (0, -1, MOST + 1):
            self.assert_raises(InvalidNumber, ("given", slips), urn_row, slips, 0, 1)
            self.assert_raises(InvalidNumber, ("given", slips), urns_row, slips, ((0, (1, 1)),), 1)

    def test_yes_above_slips(self):
        for slips in (1, 5, MOST):
            self.assertEqual(urn_row(slips, slips, 1), Row((0, 1)))
            self.assert_raises(InvalidNumber, ("given", slips + 1), urn_row, slips, slips + 1, 1)
            self.assert_raises(InvalidUrns, ("index", 0), urns_row, slips, ((slips + 1, (1, 1)),), 1)

    def test_draws_above_slips_come_last(self):
        for slips in range(1, 5):
            self.assertEqual(urn_row(slips, 0, slips).draws, slips)
            for draws in range(slips + 1, 6):
                self.assert_raises(InvalidNumber, ("given", draws), urn_row, slips, 0, draws)
                self.assert_raises(InvalidNumber, ("given", slips + 1), urn_row, slips, slips + 1, draws)
                self.assert_raises(InvalidNumber, ("given", draws), urns_row, slips, ((0, (1, 1)),), draws)
                self.assert_raises(InvalidUrns, ("index", None), urns_row, slips, ((0, (1, 2)),), draws)
                self.assert_raises(InvalidUrns, ("index", 1), urns_row, slips, ((0, (1, 1)), None), draws)

    def test_urns_may_be_one_or_all(self):
        self.assertEqual(urns_row(1, ((0, (1, 3)), (1, (2, 3))), 1), Row((1, 2)))
        self.assertEqual(urns_row(2, ((2, (1, 1)),), 1), Row((0, 1)))

    def test_chance(self):
        self.assertEqual([coin_row((0, 1), 1), coin_row((1, 1), 1)], [Row((1, 0)), Row((0, 1))])
        for chance in ((0, 2), (2, 2), (-1, 1), (2, 1), (MOST + 1, MOST), (1, 0), (0, 0), (-1, -1)):
            self.assert_raises(InvalidChance, ("given", chance), coin_row, chance, 1)

    def test_eight_rows(self):
        rows = (Row((1, 1)),) * 8
        self.assertEqual(mixed(rows, ((1, 8),) * 8), Row((1, 1)))
        self.assert_raises(InvalidRows, ("index", 8), mixed, (*rows, rows[0]), ((1, 9),) * 9)

    def test_one_more_share_or_less(self):
        for many in range(1, 9):
            rows = (Row((1, 1)),) * many
            for other in (many - 1, many + 1):
                shares = ((1, other),) * other if other else ()
                self.assert_raises(InvalidChance, ("given", shares), mixed, rows, shares)

    def test_more_than_the_row_has(self):
        for draws in range(1, 6):
            row = Row((1,) * (draws + 1))
            self.assertEqual([all_yes(row, 0), fewer(row, draws)], [(1, 1), row])
            self.assert_raises(InvalidNumber, ("given", draws + 1), all_yes, row, draws + 1)
            self.assert_raises(InvalidNumber, ("given", draws + 1), fewer, row, draws + 1)
            self.assert_raises(InvalidNumber, ("given", draws), behind, row, draws, 0)
            self.assert_raises(InvalidNumber, ("given", draws + 1), behind, row, draws + 1, 0)
            for seen in range(1, draws):
                self.assertEqual(behind(row, seen, seen).draws, draws - seen)
                self.assert_raises(InvalidNumber, ("given", seen + 1), behind, row, seen, seen + 1)

    def test_nothing_is_behind_one_draw(self):
        for draws in (0, 1, 2, None):
            self.assert_raises(InvalidNumber, ("given", draws), behind, Row((1, 1)), draws, None)

    def test_no_chance_comes_last(self):
        unlike = Row((0, 1, 0, 0))
        self.assert_raises(NoChance, None, behind, unlike, 2, 2)
        self.assert_raises(InvalidNumber, ("given", 3), behind, unlike, 2, 3)
        self.assert_raises(InvalidNumber, ("given", 3), behind, unlike, 3, 2)
        self.assert_raises(NotRow, ("given", None), behind, None, 2, 2)

    def test_true_and_false_are_no_integers(self):
        self.assertEqual(urn_row(1, 1, 1), Row((0, 1)))
        self.assert_raises(InvalidNumber, ("given", True), urn_row, True, 1, 1)
        self.assert_raises(InvalidNumber, ("given", True), urn_row, 1, True, 1)
        self.assert_raises(InvalidNumber, ("given", False), urn_row, 1, False, 1)
        self.assert_raises(InvalidNumber, ("given", True), urn_row, 1, 1, True)
        self.assert_raises(InvalidChance, ("given", (True, True)), coin_row, (True, True), 1)
        self.assert_raises(InvalidUrns, ("index", 0), urns_row, 1, ((True, (1, 1)),), 1)
        self.assert_raises(InvalidUrns, ("index", 0), urns_row, 1, ((1, (1, True)),), 1)


if __name__ == "__main__":
    unittest.main()
