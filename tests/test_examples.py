"""The examples that the document gives, module by module."""

import unittest

from drawnmore.errors import InvalidCounts, InvalidNumber, NoChance, NoUrns
from drawnmore.extending import against, always, comes, greatest, urns
from drawnmore.further import least_share, most_share, next_chances, next_yes, stretch
from drawnmore.making import all_yes, behind, coin_row, fewer, mixed, swapped, urn_row, urns_row
from drawnmore.mends import holds, mends
from drawnmore.rows import Row
from drawnmore.watches import Watch
from tests.helper import Case


class Examples(Case):
    def setUp(self):
        self.unlike = Row((0, 3, 0))
        self.mostly = Row((1, 4, 1))

    def test_rows(self):
        self.assertEqual(
            [
                self.unlike.counts,
                self.mostly.rates,
                self.unlike.text,
                self.mostly.changed(((2, "yes 1 2"),)).counts,
                Row.read("draws 1\nyes 0 2\nyes 1 4").counts,
                repr(self.mostly),
            ],
            [
                (0, 1, 0),
                ((1, 6), (2, 3), (1, 6)),
                "draws 2\nyes 0 0\nyes 1 1\nyes 2 0",
                (1, 2, 1),
                (1, 2),
                "Row of 2 draws",
            ],
        )

    def test_wrong_row(self):
        self.assert_raises(InvalidCounts, ("index", 1), Row, (1, -1))

    def test_making(self):
        self.assertEqual(
            [
                urn_row(4, 2, 2).counts,
                urns_row(3, ((0, (1, 2)), (2, (1, 2))), 2).counts,
                coin_row((1, 3), 2).counts,
                mixed((self.unlike, Row((1, 0, 1))), ((1, 2), (1, 2))).counts,
            ],
            [(1, 4, 1), (3, 2, 1), (4, 4, 1), (1, 2, 1)],
        )

    def test_of_rows(self):
        self.assertEqual(
            [
                all_yes(self.mostly, 1),
                all_yes(self.mostly, 2),
                swapped(Row((5, 0, 1))).counts,
                fewer(Row((1, 0, 0, 1)), 2).counts,
                behind(self.mostly, 1, 1).counts,
                behind(Row((1, 2, 3, 4)), 2, 0).counts,
            ],
            [(1, 2), (1, 6), (1, 0, 5), (1, 0, 1), (2, 1), (3, 2)],
        )

    def test_wrong_behind(self):
        self.assert_raises(InvalidNumber, ("given", 2), behind, self.unlike, 1, 2)

    def test_extending(self):
        unlike, mostly = self.unlike, self.mostly
        self.assertEqual(
            [
                comes(unlike, 2), comes(unlike, 3), against(unlike, 3), comes(mostly, 4), urns(mostly, 4),
                comes(mostly, 5), against(mostly, 5), comes(mostly, 1),
            ],
            [True, False, (1, 2), True, ((2, (1, 1)),), False, (2, 3), False],
        )
        self.assertEqual(
            [
                greatest(unlike), greatest(mostly), greatest(coin_row((1, 3), 3)), always(Row((1, 2, 1))),
                always(Row((1, 3, 1))), greatest(Row((10 ** 9, 2 * 10 ** 9 + 1, 10 ** 9))),
            ],
            [2, 4, None, True, False, 4000000002],
        )

    def test_further(self):
        unlike, mostly = self.unlike, self.mostly
        self.assertEqual(
            [
                most_share(Row((1, 2, 1)), 4, 2), most_share(mostly, 4, 2), most_share(mostly, 4, 0),
                most_share(Row((1, 2, 1)), 10 ** 30, 0), most_share(Row((1, 1)), 5, 5),
            ],
            [(3, 4), (1, 1), (0, 1), (1, 1000000000000000000000000000002), (1, 2)],
        )
        self.assertEqual(
            [
                next_chances(mostly, 4), next_yes(mostly, 1, 4), next_chances(Row((1, 2, 1)), 4),
                next_yes(Row((1, 2, 1)), 2, 4), next_chances(Row((1, 1)), 2),
            ],
            [
                ((0, 1), (0, 1)), ((1, 2), (1, 2)), ((1, 12), (1, 6)), ((1, 3), (2, 3)),
                ((0, 1), (1, 2)),
            ],
        )
        self.assertEqual(
            [
                least_share(unlike, Row((1, 0, 1)), 4), least_share(mostly, Row((1, 0, 1)), 4),
                least_share(unlike, Row((0, 1, 0)), 3),
            ],
            [(1, 3), (0, 1), None],
        )
        self.assertEqual(
            [
                stretch(mostly, 1, 4), stretch(unlike, 1, 3), stretch(unlike, 0, 3),
                stretch(Row((1, 0, 1)), 1, 3), stretch(Row((0, 1, 1)), 1, 2),
            ],
            [(0, 4), None, (1, None), (0, 4), (0, None)],
        )

    def test_no_further(self):
        self.assert_raises(NoUrns, None, next_chances, self.unlike, 3)

    def test_mends(self):
        mostly = self.mostly
        self.assertEqual(
            [
                holds(mostly, ("comes", 4)), holds(mostly, ("misses", 5)), holds(mostly, ("always",)),
                holds(mostly, ("likely", 1, (2, 3))), holds(mostly, ("likely", 7, (0, 1))),
                holds(mostly, ("comes", 1)),
            ],
            [True, True, False, True, True, False],
        )
        changes = ((2, "yes 1 2"), (1, "yes 0 2"), (3, "yes 2 2"), (2, "yes 1 5"))
        self.assertEqual(mends(mostly, (("always",),), changes), ((0,), (1, 2)))

    def test_watches(self):
        watch = Watch(self.mostly)
        self.assertEqual(
            [
                watch.note(True), watch.rest.counts, watch.note(False), watch.rest, len(watch), watch.undo(),
                watch.noted, watch.tried(len),
            ],
            [(1, 2), (2, 1), (2, 3), None, 2, None, (True,), 1],
        )

    def test_no_watch(self):
        self.assert_raises(NoChance, None, Watch(self.unlike).tried, lambda own: (own.note(True), own.note(True)))


if __name__ == "__main__":
    unittest.main()
