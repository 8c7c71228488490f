"""certify_comes, certify_greatest, certify_next and certify_share: the claim that is
due, with the text of the row and what the other modules tell, and a certificate
that the checker and the words of the document accept."""

import unittest
from fractions import Fraction

from drawnmore.certificates import certify_comes, certify_greatest, certify_next, certify_share
from drawnmore.checker import accepts
from drawnmore.errors import InvalidNumber, NotRow, NoUrns
from drawnmore.extending import always, comes, greatest
from drawnmore.further import most_share, next_chances
from drawnmore.making import coin_row, urn_row
from drawnmore.rows import Row
from tests.helper import (
    MOST, CallTable, Case, given, great_lots, is_true, lot_rows, no_numbers, no_rows, picker, plain_accepts,
    product_at, sign_of, small_rows, some_rows, tried_lots, urn_rates,
)

LONG = 123456789012345678901234567890
ROW = Row((1, 2, 3, 4))
ALWAYS = Row((1, 3, 3, 1))


def no_slips(least):
    """Whatever is no number of slips from this one on."""
    return [*no_numbers(1, MOST), *range(least)]


ROWS = given(NotRow, no_rows())


class Calls(CallTable, Case):
    CALLS = [
        (certify_comes, {"row": ROW, "slips": 4}, {"row": ROWS, "slips": given(InvalidNumber, no_slips(1))}),
        (certify_greatest, {"row": ROW}, {"row": ROWS}),
        (certify_next, {"row": ALWAYS, "slips": 7}, {"row": ROWS, "slips": given(InvalidNumber, no_slips(4))}),
        (certify_share, {"row": ALWAYS, "slips": 7, "yes": 2}, {
            "row": ROWS,
            "slips": given(InvalidNumber, no_slips(3)),
            "yes": given(InvalidNumber, [*no_numbers(0, 7), 8]),
        }),
    ]

    def test_right_arguments(self):
        for call, right, _ in self.CALLS:
            before = (ROW.counts, ROW.text, ALWAYS.counts)
            told = call(**right)
            self.assertEqual(told, call(*right.values()))
            self.assertEqual(told, call(**dict(reversed(right.items()))))
            self.assertEqual((ROW.counts, ROW.text, ALWAYS.counts), before)

    def test_no_urns_comes_last(self):
        unlike = Row((0, 1, 0))
        for slips in (3, 4, LONG, MOST):
            self.assert_raises(NoUrns, None, certify_next, unlike, slips)
            self.assert_raises(NoUrns, None, certify_next, row=unlike, slips=slips)
            for yes in (0, 1, slips):
                self.assert_raises(NoUrns, None, certify_share, unlike, slips, yes)
                self.assert_raises(NoUrns, None, certify_share, row=unlike, slips=slips, yes=yes)
            self.assert_raises(InvalidNumber, ("given", slips + 1), certify_share, unlike, slips, slips + 1)
            self.assert_raises(InvalidNumber, ("given", -1), certify_share, unlike, slips, -1)
            self.assert_raises(InvalidNumber, ("given", True), certify_share, unlike, slips, True)

    def test_slips_and_draws(self):
        for draws in range(1, 6):
            row = coin_row((1, 2), draws)
            for slips in range(-1, draws):
                self.assert_raises(InvalidNumber, ("given", slips), certify_next, row, slips)
                self.assert_raises(InvalidNumber, ("given", slips), certify_share, row, slips, 0)
                self.assert_raises(InvalidNumber, ("given", slips), certify_share, row, slips, None)
            self.assert_raises(InvalidNumber, ("given", draws), certify_next, row, draws)
            for call in (certify_comes, certify_next):
                call(row, MOST)
                self.assert_raises(InvalidNumber, ("given", MOST + 1), call, row, MOST + 1)
            certify_share(row, MOST, MOST)
            self.assert_raises(InvalidNumber, ("given", MOST + 1), certify_share, row, MOST + 1, 0)
            self.assert_raises(InvalidNumber, ("given", MOST + 1), certify_share, row, MOST, MOST + 1)


class CertificateCase(Case):
    def assert_pair(self, found, claim):
        """This is the claim, of plain values, with a certificate for it."""
        self.assertEqual([found.__class__, len(found)], [tuple, 2])
        self.assertEqual(found[0], claim)
        self.assert_plain(found)
        self.assertIs(accepts(*found), True, found)
        self.assertTrue(plain_accepts(*found), found)
        return found[1]

    def assert_plain(self, value):
        """There are only integers and strings in tuples."""
        if value.__class__ is tuple:
            for part in value:
                self.assert_plain(part)
        else:
            self.assertIn(value.__class__, (int, str))

    def check_comes(self, row, slips):
        found = certify_comes(row, slips)
        word = "comes" if comes(row, slips) else "misses"
        certificate = self.assert_pair(found, (word, row.text, slips))
        if word == "comes":
            self.assert_lot(certificate, row, slips)
        elif slips < row.draws:
            self.assertEqual(certificate, ())
        else:
            self.assert_tells_against(certificate, row, slips)
        return word

    def check_greatest(self, row):
        most = greatest(row)
        if most is None:
            self.assertEqual(self.assert_pair(certify_greatest(row), ("always", row.text)), ())
            return
        lot, points = self.assert_pair(certify_greatest(row), ("greatest", row.text, most))
        self.assert_lot(lot, row, most)
        self.assert_tells_against(points, row, most + 1)

    def check_next(self, row, slips):
        found = certify_next(row, slips)
        self.assertEqual([found.__class__, len(found)], [tuple, 2])
        for word, chance, one, sign in zip(("least", "most"), next_chances(row, slips), found, (1, -1)):
            lot, points = self.assert_pair(one, (word, row.text, slips, chance))
            self.assert_lot(lot, row, slips)
            self.assertEqual(len(points), row.draws + 1)
            self.assertEqual(sign_of(points, slips), sign)
            self.assertTrue({yes for yes, _ in lot} <= set(points))

    def check_share(self, row, slips, yes):
        share = most_share(row, slips, yes)
        lot, points = self.assert_pair(certify_share(row, slips, yes), ("share", row.text, slips, yes, share))
        self.assert_lot(lot, row, slips)
        self.assertEqual(dict(lot).get(yes, (0, 1)), share)
        self.assertEqual(yes in dict(lot), share != (0, 1))
        self.assertEqual(len(points), row.draws)
        self.assertNotIn(yes, points)
        self.assertNotEqual(product_at(points, yes), 0)
        return share

    def check_all(self, row, slips):
        if self.check_comes(row, slips) == "comes":
            for yes in {0, 1, slips // 2, slips - 1, slips}:
                self.check_share(row, slips, yes)
            if slips > row.draws:
                self.check_next(row, slips)


class Small(CertificateCase):
    def test_slips_of_all_kinds(self):
        """Below the draws, as many, one more; below, at and above the greatest one."""
        for row in [*small_rows(2, 2), *small_rows(3, 1), *lot_rows(60, 9, 31)]:
            self.check_greatest(row)
            most = greatest(row) or 10
            for slips in {1, row.draws - 1, row.draws, row.draws + 1, most - 1, most, most + 1, 2 * most} - {0}:
                self.check_all(row, min(slips, MOST))

    def test_rows_of_all_draws(self):
        for draws in range(1, 6):
            for counts in ((1,) + (0,) * draws, (0,) * draws + (1,), (1,) * (draws + 1), (0, 1) + (0,) * (draws - 1)):
                row = Row(counts)
                self.check_greatest(row)
                for slips in (1, 2, 3, 4, 5, 6, 7, 8, 40):
                    self.check_all(row, slips)

    def test_all_shares(self):
        for row in lot_rows(60, 8, 32):
            for slips in range(row.draws, 9):
                lots = tried_lots(row, slips)
                for yes in range(slips + 1):
                    if not lots:
                        self.assert_raises(NoUrns, None, certify_share, row, slips, yes)
                    else:
                        share = self.check_share(row, slips, yes)
                        self.assertEqual(Fraction(*share), max(lot.get(yes, Fraction(0)) for lot in lots))

    def test_shares_of_none_and_all(self):
        found = []
        for slips in range(3, 9):
            for yes in range(slips + 1):
                row = urn_row(slips, yes, 3)
                for other in range(slips + 1):
                    share = self.check_share(row, slips, other)
                    if other == yes:
                        self.assertEqual(share, (1, 1))
                    found.append(share)
        self.assertGreater(found.count((0, 1)), 50)

    def test_always(self):
        for draws in range(1, 6):
            for chance in ((0, 1), (1, 1), (1, 2), (3, 7), (LONG, MOST + 9)):
                row = coin_row(chance, draws)
                self.assertEqual(certify_greatest(row), (("always", row.text), ()))
                self.check_greatest(row)
                self.assertTrue(always(row))

    def test_as_it_is_told(self):
        mostly, evenly = Row((1, 4, 1)), Row((1, 2, 1))
        self.assertEqual(certify_comes(mostly, 4), (("comes", mostly.text, 4), ((2, (1, 1)),)))
        self.assertEqual(certify_comes(mostly, 5), (("misses", mostly.text, 5), (2, 3)))
        self.assertEqual(certify_comes(mostly, 1), (("misses", mostly.text, 1), ()))
        self.assertEqual(certify_greatest(mostly), (("greatest", mostly.text, 4), (((2, (1, 1)),), (2, 3))))
        self.assertEqual(certify_greatest(evenly), (("always", evenly.text), ()))
        self.assertEqual([claim for claim, _ in certify_next(evenly, 4)],
                         [("least", evenly.text, 4, (1, 12)), ("most", evenly.text, 4, (1, 6))])
        self.assertEqual(certify_share(evenly, 4, 2)[0], ("share", evenly.text, 4, 2, (3, 4)))


class Great(CertificateCase):
    def test_thirty_figures(self):
        for slips in (LONG, MOST - 1, MOST):
            for row in great_lots(25, slips, slips % 109):
                self.check_all(row, slips)
                self.check_greatest(row)

    def test_rows_that_do_not_come_of_thirty_figures(self):
        for row in some_rows(80, 33):
            self.check_comes(row, MOST)
            self.check_comes(row, LONG)
            self.check_greatest(row)

    def test_counts_of_forty_figures(self):
        pick = picker(34)
        found = 0
        for _ in range(40):
            draws = 1 + pick(5)
            counts = [count + pick(3) for count in coin_row((1 + pick(10 ** 8), 10 ** 8 + 37), draws).counts]
            row = Row(tuple(counts))
            self.check_greatest(row)
            for slips in (draws, 10 ** 6, MOST):
                found += comes(row, slips)
                self.check_all(row, slips)
        self.assertGreater(found, 40)

    def test_a_greatest_number_above_all_that_can_be_asked(self):
        for draws in range(2, 6):
            for slips in (MOST, MOST + 1, 10 ** 40, 10 ** 60 + 7):
                rates = urn_rates(slips, slips // 2, draws)
                bottom = 1
                for rate in rates:
                    bottom *= rate.denominator
                row = Row(tuple(int(rate * bottom) for rate in rates))
                self.check_greatest(row)
                self.assertEqual(certify_greatest(row)[0][2], slips)
                self.assertTrue(is_true(certify_greatest(row)[0]))

    def test_asked_twice(self):
        for row in [*great_lots(10, MOST, 35), *lot_rows(10, 9, 36)]:
            for call in (lambda: certify_comes(row, MOST), lambda: certify_comes(row, row.draws),
                         lambda: certify_greatest(row), lambda: certify_share(row, row.draws, 0)):
                self.assertEqual(call(), call())


if __name__ == "__main__":
    unittest.main()
