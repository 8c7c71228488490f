"""The four numbers of drawnmore.limits."""

import unittest

from drawnmore import limits


class Limits(unittest.TestCase):
    def test_numbers(self):
        told = [limits.MOST_DRAWS, limits.MOST_SLIPS, limits.MOST_ROWS, limits.MOST_CHANGES]
        self.assertEqual(told, [5, 10 ** 30, 8, 6])
        self.assertEqual([number.__class__ for number in told], [int] * 4)


if __name__ == "__main__":
    unittest.main()
