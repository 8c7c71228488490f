"""The examples that the document gives for rows and making."""

import unittest

from drawnmore.errors import InvalidCounts, InvalidNumber
from drawnmore.making import all_yes, behind, coin_row, fewer, mixed, swapped, urn_row, urns_row
from drawnmore.rows import Row
from tests.helper import Case


class Examples(Case):
    def setUp(self):
        self.unlike = Row((0, 3, 0))
        self.mostly = Row((1, 4, 1))

    def test_rows(self):
        self.assertEqual(
            [
                self.unlike.counts,
                self.mostly.rates,
                self.unlike.text,
                self.mostly.changed(((2, "yes 1 2"),)).counts,
                Row.read("draws 1\nyes 0 2\nyes 1 4").counts,
                repr(self.mostly),
            ],
            [
                (0, 1, 0),
                ((1, 6), (2, 3), (1, 6)),
                "draws 2\nyes 0 0\nyes 1 1\nyes 2 0",
                (1, 2, 1),
                (1, 2),
                "Row of 2 draws",
            ],
        )

    def test_wrong_row(self):
        self.assert_raises(InvalidCounts, ("index", 1), Row, (1, -1))

    def test_making(self):
        self.assertEqual(
            [
                urn_row(4, 2, 2).counts,
                urns_row(3, ((0, (1, 2)), (2, (1, 2))), 2).counts,
                coin_row((1, 3), 2).counts,
                mixed((self.unlike, Row((1, 0, 1))), ((1, 2), (1, 2))).counts,
            ],
            [(1, 4, 1), (3, 2, 1), (4, 4, 1), (1, 2, 1)],
        )

    def test_of_rows(self):
        self.assertEqual(
            [
                all_yes(self.mostly, 1),
                all_yes(self.mostly, 2),
                swapped(Row((5, 0, 1))).counts,
                fewer(Row((1, 0, 0, 1)), 2).counts,
                behind(self.mostly, 1, 1).counts,
                behind(Row((1, 2, 3, 4)), 2, 0).counts,
            ],
            [(1, 2), (1, 6), (1, 0, 5), (1, 0, 1), (2, 1), (3, 2)],
        )

    def test_wrong_behind(self):
        self.assert_raises(InvalidNumber, ("given", 2), behind, self.unlike, 1, 2)


if __name__ == "__main__":
    unittest.main()
