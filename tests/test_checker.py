"""accepts: claims with certificates of the program and made by hand, the same with
any one part otherwise, and values of all kinds. It is held against the words of
the document, and what is accepted against what the other modules tell."""

import unittest
from fractions import Fraction
from itertools import combinations, product

from drawnmore.certificates import certify_comes, certify_greatest, certify_next, certify_share
from drawnmore.checker import accepts
from drawnmore.extending import against, always, comes, greatest, urns
from drawnmore.further import most_share, next_chances
from drawnmore.making import coin_row, urn_row, urns_row
from drawnmore.rows import Row
from tests.helper import (
    MOST, Case, Odd, great_lots, is_even, is_true, lot_rows, nested, nested_list, no_fractions, no_integers, no_rows,
    otherwise, pair, picker, plain, plain_accepts, product_at, small_rows, told_row, tried_lots, unusual, urn_rates,
)

UNLIKE, MOSTLY, EVENLY = Row((0, 1, 0)), Row((1, 4, 1)), Row((1, 2, 1))
LONG = 123456789012345678901234567890
KINDS = ("comes", "misses", "greatest", "always", "least", "most", "share")

# Right ones, each made by hand.
RIGHT = [
    (("comes", "draws 1\nyes 0 1\nyes 1 1", 1), ((0, (1, 2)), (1, (1, 2)))),
    (("comes", "draws 1\nyes 0 1\nyes 1 1", 2), ((1, (1, 1)),)),
    (("comes", "draws 1\nyes 0 7\nyes 1 7", 2), ((0, (1, 3)), (1, (1, 3)), (2, (1, 3)))),
    (("comes", "draws 1\nyes 0 0\nyes 1 5", MOST), ((MOST, (1, 1)),)),
    (("comes", UNLIKE.text, 2), ((1, (1, 1)),)),
    (("comes", "draws 2\nyes 0 0\nyes 1 3\nyes 2 0", 2), ((1, (1, 1)),)),
    (("comes", MOSTLY.text, 4), ((2, (1, 1)),)),
    (("comes", MOSTLY.text, 3), ((1, (1, 2)), (2, (1, 2)))),
    (("comes", MOSTLY.text, 2), ((0, (1, 6)), (1, (2, 3)), (2, (1, 6)))),
    (("comes", EVENLY.text, 4), ((0, (1, 8)), (2, (3, 4)), (4, (1, 8)))),
    (("comes", EVENLY.text, 4), ((0, (1, 6)), (2, (1, 2)), (3, (1, 3)))),
    (("comes", EVENLY.text, 4), ((0, (1, 16)), (1, (1, 4)), (2, (3, 8)), (3, (1, 4)), (4, (1, 16)))),
    (("comes", Row(plain(urn_rates(10 ** 40, 3, 5))).text, 10 ** 40), ((3, (1, 1)),)),
    (("misses", UNLIKE.text, 1), ()),
    (("misses", UNLIKE.text, 3), (1, 2)),
    (("misses", UNLIKE.text, 4), (1, 2)),
    (("misses", UNLIKE.text, 4), (2, 3)),
    (("misses", UNLIKE.text, 10 ** 40), (10 ** 39, 10 ** 39 + 1)),
    (("misses", MOSTLY.text, 5), (2, 3)),
    (("misses", "draws 3\nyes 0 0\nyes 1 1\nyes 2 0\nyes 3 0", 2), ()),
    (("misses", "draws 3\nyes 0 0\nyes 1 1\nyes 2 0\nyes 3 0", 4), (1, 2, 4)),
    (("misses", "draws 3\nyes 0 0\nyes 1 0\nyes 2 1\nyes 3 0", 4), (0, 2, 3)),
    (("greatest", UNLIKE.text, 2), (((1, (1, 1)),), (1, 2))),
    (("greatest", MOSTLY.text, 4), (((2, (1, 1)),), (2, 3))),
    (("always", "draws 1\nyes 0 1\nyes 1 0"), ()),
    (("always", EVENLY.text), ()),
    (("always", "draws 2\nyes 0 3\nyes 1 6\nyes 2 3"), ()),
    (("always", coin_row((1, 3), 5).text), ()),
    (("least", "draws 1\nyes 0 1\nyes 1 1", 2, (0, 1)), (((1, (1, 1)),), (0, 1))),
    (("least", "draws 1\nyes 0 1\nyes 1 1", 2, (0, 1)), (((1, (1, 1)),), (1, 2))),
    (("most", "draws 1\nyes 0 1\nyes 1 1", 2, (1, 2)), (((0, (1, 2)), (2, (1, 2))), (0, 2))),
    (("least", EVENLY.text, 4, (1, 12)), (((0, (1, 6)), (2, (1, 2)), (3, (1, 3))), (0, 2, 3))),
    (("most", EVENLY.text, 4, (1, 6)), (((1, (1, 3)), (2, (1, 2)), (4, (1, 6))), (1, 2, 4))),
    (("least", MOSTLY.text, 4, (0, 1)), (((2, (1, 1)),), (0, 1, 2))),
    (("most", MOSTLY.text, 4, (0, 1)), (((2, (1, 1)),), (1, 2, 4))),
    (("most", MOSTLY.text, 3, (0, 1)), (((1, (1, 2)), (2, (1, 2))), (1, 2, 3))),
    (("share", "draws 1\nyes 0 1\nyes 1 1", 5, 5, (1, 2)), (((0, (1, 2)), (5, (1, 2))), (0,))),
    (("share", EVENLY.text, 4, 2, (3, 4)), (((0, (1, 8)), (2, (3, 4)), (4, (1, 8))), (0, 4))),
    (("share", MOSTLY.text, 4, 2, (1, 1)), (((2, (1, 1)),), (0, 4))),
    (("share", MOSTLY.text, 4, 2, (1, 1)), (((2, (1, 1)),), (0, 1))),
    (("share", MOSTLY.text, 4, 0, (0, 1)), (((2, (1, 1)),), (1, 2))),
    (("share", MOSTLY.text, 4, 4, (0, 1)), (((2, (1, 1)),), (2, 3))),
    (("share", MOSTLY.text, 2, 1, (2, 3)), (((0, (1, 6)), (1, (2, 3)), (2, (1, 6))), (0, 2))),
]


def certified(row, slips):
    """What the program certifies of a row and slips."""
    found = [certify_comes(row, slips), certify_greatest(row)]
    if slips >= row.draws and comes(row, slips):
        found += [certify_share(row, slips, yes) for yes in sorted({0, slips // 2, slips})]
        if slips > row.draws:
            found += certify_next(row, slips)
    return found


class CheckerCase(Case):
    def check(self, claim, certificate):
        """The answer is that of the document, and True only for what is true."""
        found = accepts(claim, certificate)
        self.assertIs(found, plain_accepts(claim, certificate), (claim, certificate))
        if found:
            self.assertTrue(is_true(claim), claim)
        return found


class Right(CheckerCase):
    def test_the_seven_words(self):
        self.assertEqual({claim[0] for claim, _ in RIGHT}, set(KINDS))

    def test_made_by_hand(self):
        for claim, certificate in RIGHT:
            self.assertIs(accepts(claim, certificate), True, (claim, certificate))
            self.assertIs(accepts(claim=claim, certificate=certificate), True)
            self.assertIs(accepts(certificate=certificate, claim=claim), True)
            if claim[0] in ("comes", "misses", "greatest", "always") or claim[2] <= MOST:
                self.assertTrue(self.check(claim, certificate))

    def test_by_the_program(self):
        for row in [*small_rows(2, 2), *lot_rows(60, 9, 21)]:
            for slips in (1, row.draws, row.draws + 1, row.draws + 3, 11):
                for claim, certificate in certified(row, slips):
                    self.assertTrue(self.check(claim, certificate), (claim, certificate))

    def test_by_the_program_with_great_numbers(self):
        for slips in (LONG, MOST - 1, MOST):
            for row in great_lots(20, slips, slips % 107):
                for claim, certificate in certified(row, slips):
                    self.assertTrue(self.check(claim, certificate), (claim, certificate))

    def test_what_the_functions_tell_is_certificates(self):
        for row in lot_rows(80, 9, 22):
            for slips in (row.draws, row.draws + 1, 9, 30, MOST):
                if comes(row, slips):
                    self.assertIs(accepts(("comes", row.text, slips), urns(row, slips)), True)
                else:
                    self.assertIs(accepts(("misses", row.text, slips), against(row, slips)), True)
            most = greatest(row)
            self.assertIs(accepts(("always", row.text), ()), most is None)
            if most is not None and most < MOST:
                told = (urns(row, most), against(row, most + 1))
                self.assertIs(accepts(("greatest", row.text, most), told), True)

    def test_counts_with_a_common_divisor(self):
        for claim, certificate in RIGHT:
            row = Row.read(claim[1])
            many = tuple(f"yes {yes} {count * 10 ** 31}" for yes, count in enumerate(row.counts))
            other = (claim[0], "\n".join([f"draws {row.draws}", *many]), *claim[2:])
            self.assertIs(accepts(other, certificate), True)

    def test_lots_of_many_urns(self):
        for slips in (6, 9, 40):
            shares = [Fraction(1 + yes % 3, 1) for yes in range(slips + 1)]
            lot = tuple((yes, pair(share / sum(shares))) for yes, share in enumerate(shares))
            for draws in range(1, 6):
                row = urns_row(slips, lot, draws)
                self.assertTrue(self.check(("comes", row.text, slips), lot))
                self.assertFalse(self.check(("comes", row.text, slips + 1), lot))

    def test_counts_of_forty_and_of_a_thousand_figures(self):
        for figures in (40, 300, 999):
            count = 10 ** figures
            row = Row((count, 2 * count + 1, count))
            for claim, certificate in (certify_greatest(row), certify_comes(row, MOST), *certify_next(row, 3)):
                self.assertIs(accepts(claim, certificate), True)
            (kind, text, slips), certificate = certify_greatest(row)
            self.assertGreater(slips, count)
            for other in (slips - 1, slips + 1):
                self.assertIs(accepts((kind, text, other), certificate), False)


class Otherwise(CheckerCase):
    """One part otherwise, at any place and depth."""

    def vary(self, claim, certificate):
        found = {True: 0, False: 0}
        for other in otherwise(claim):
            found[self.check(other, certificate)] += 1
        for other in otherwise(certificate):
            found[self.check(claim, other)] += 1
        return found

    def test_made_by_hand(self):
        for claim, certificate in RIGHT:
            if len(claim) < 3 or claim[2] <= MOST:
                found = self.vary(claim, certificate)
                self.assertGreater(found[False], 50)

    def test_by_the_program(self):
        rows = [row for row in lot_rows(40, 8, 23) if row.draws > 1]
        for at, row in enumerate(rows[:16]):
            several = certified(row, row.draws + 1 + at % 3)
            self.vary(*several[at % len(several)])

    def test_great_numbers(self):
        rows = [*great_lots(6, MOST, 24), *great_lots(6, LONG, 25)]
        for at, row in enumerate(rows):
            several = certified(row, MOST if at < 6 else LONG)
            self.vary(*several[at % len(several)])

    def test_two_parts(self):
        pick = picker(26)
        for claim, certificate in RIGHT:
            if len(claim) > 2 and claim[2] > MOST:
                continue
            claims = list(otherwise(claim))
            certificates = list(otherwise(certificate))
            for _ in range(60):
                self.check(claims[pick(len(claims))], certificates[pick(len(certificates))])

    def test_exchanged(self):
        """Each claim with each certificate."""
        for claim, _ in RIGHT:
            for _, certificate in RIGHT:
                if len(claim) < 3 or claim[2] <= MOST:
                    self.check(claim, certificate)
                self.assertIs(accepts(certificate, claim), False)


class AllThatThereIs(CheckerCase):
    """Small numbers: all claims of a kind, with all certificates that could be."""

    def test_misses(self):
        for row in small_rows(2, 2):
            for slips in range(1, 7):
                found = False
                for points in [(), *combinations(range(-1, slips + 2), row.draws), *product(range(3), repeat=row.draws)]:
                    found = self.check(("misses", row.text, slips), points) or found
                self.assertEqual(found, not comes(row, slips))

    def test_misses_of_three_draws(self):
        for row in small_rows(3, 1)[10:]:
            for slips in (2, 3, 4, 5):
                tried = [self.check(("misses", row.text, slips), points) for points in
                         [(), *combinations(range(slips + 1), 3)]]
                self.assertEqual(any(tried), not comes(row, slips))

    def test_even_tuples(self):
        """Those that are not even are refused, also where the product has a mean below 0."""
        found = 0
        for draws in range(1, 6):
            for row in lot_rows(300, 8, 27):
                if row.draws != draws or comes(row, 8):
                    continue
                for points in combinations(range(9), draws):
                    if not is_even(points, 8):
                        self.assertIs(accepts(("misses", row.text, 8), points), False)
                    else:
                        found += self.check(("misses", row.text, 8), points)
        self.assertGreater(found, 50)

    def test_ends(self):
        chances = [pair(Fraction(top, 24)) for top in range(-1, 26)]
        for row in [EVENLY, MOSTLY, Row((1, 1, 1)), Row((1, 1)), Row((2, 1))]:
            for slips in range(1, 5):
                least, most = next_chances(row, slips) if slips > row.draws and comes(row, slips) else (None, None)
                lots = [tuple((yes, pair(share)) for yes, share in lot.items() if share)
                        for lot in (tried_lots(row, slips) if slips >= row.draws else [])]
                for chance in [*chances, least, most]:
                    for kind, right in (("least", least), ("most", most)):
                        tried = [
                            self.check((kind, row.text, slips, chance), (lot, points))
                            for lot in lots for points in combinations(range(slips + 1), row.draws + 1)
                        ]
                        self.assertEqual(any(tried), right is not None and chance == right)

    def test_shares(self):
        shares = [pair(Fraction(top, 12)) for top in range(-1, 14)]
        for row in [EVENLY, MOSTLY, UNLIKE, Row((1, 1)), Row((2, 1))]:
            for slips, yes in product(range(1, 5), range(-1, 6)):
                right = None
                if slips >= row.draws and comes(row, slips) and 0 <= yes <= slips:
                    right = most_share(row, slips, yes)
                lots = [tuple((at, pair(share)) for at, share in lot.items() if share)
                        for lot in (tried_lots(row, slips) if slips >= row.draws else [])]
                for share in [*shares, right]:
                    tried = [
                        self.check(("share", row.text, slips, yes, share), (lot, points))
                        for lot in lots for points in combinations(range(slips + 1), row.draws)
                    ]
                    self.assertEqual(any(tried), right is not None and share == right)

    def test_always(self):
        for row in small_rows(3, 2):
            self.assertIs(accepts(("always", row.text), ()), always(row))
            for other in (((),), (0,), [], None, (1, 2), (((0, (1, 1)),), (0,))):
                self.assertIs(accepts(("always", row.text), other), False)

    def test_greatest(self):
        for row in small_rows(2, 2):
            most = greatest(row)
            for slips in range(1, 8):
                lot, points = urns(row, slips), against(row, slips + 1)
                found = self.check(("greatest", row.text, slips), (lot, points))
                self.assertEqual(found, slips == most)


class Edges(CheckerCase):
    def test_slips_and_draws(self):
        """As many slips as draws, one less and one more."""
        for draws in range(1, 6):
            row = Row((1,) * (draws + 1))
            lot = tuple((yes, (1, draws + 1)) for yes in range(draws + 1))
            every = tuple(range(draws + 1))
            self.assertTrue(self.check(("comes", row.text, draws), lot))
            self.assertFalse(self.check(("comes", row.text, draws - 1), lot))
            self.assertFalse(self.check(("comes", row.text, draws + 1), lot))
            self.assertFalse(self.check(("misses", row.text, draws), ()))
            self.assertEqual(self.check(("misses", row.text, draws - 1), ()), draws > 1)
            self.assertFalse(self.check(("misses", row.text, draws + 1), ()))
            for points in combinations(every, draws):
                self.assertFalse(self.check(("misses", row.text, draws), points))
            # With as many slips as draws there is no further draw.
            for kind in ("least", "most"):
                for chance in ((0, 1), (1, 1), (1, draws + 1)):
                    self.assertFalse(self.check((kind, row.text, draws, chance), (lot, every)))
            for yes in every:
                others = tuple(at for at in every if at != yes)
                self.assertTrue(self.check(("share", row.text, draws, yes, (1, draws + 1)), (lot, others)))
                self.assertFalse(self.check(("share", row.text, draws, yes, (0, 1)), (lot, others)))

    def test_shares_of_none_and_all(self):
        text = coin_row((0, 1), 3).text
        lot = ((0, (1, 1)),)
        for slips in (3, 4, 7, MOST):
            for points in ((slips - 2, slips - 1, slips), (1, 2, slips)):
                self.assertTrue(self.check(("share", text, slips, 0, (1, 1)), (lot, points)))
            self.assertFalse(self.check(("share", text, slips, 0, (0, 1)), (lot, (1, 2, slips))))
            for yes in (1, 2, slips):
                self.assertFalse(self.check(("share", text, slips, yes, (1, 1)), (lot, (0, 1, 2))))
            self.assertTrue(self.check(("share", text, slips, 3, (0, 1)), (lot, (0, 1, 2))))

    def test_no_such_urn(self):
        for yes in (-1, 5, 6, -MOST, MOST):
            for points in ((1, 2), (2, 3), (0, 4), (2, 2), (0, 2)):
                self.assertIs(accepts(("share", MOSTLY.text, 4, yes, (0, 1)), (((2, (1, 1)),), points)), False)

    def test_chances_below_and_above(self):
        for top in (-5, -1, 2, 3, 1000):
            for bottom in (1, 7):
                chance = pair(Fraction(top, bottom))
                for kind in ("least", "most"):
                    self.assertFalse(self.check((kind, "draws 1\nyes 0 1\nyes 1 1", 2, chance), (((1, (1, 1)),), (1, 2))))
                    self.assertFalse(self.check((kind, "draws 1\nyes 0 1\nyes 1 1", 2, chance), (((1, (1, 1)),), (0, 1))))

    def test_products_that_change_their_sign(self):
        lot = ((0, (1, 2)), (2, (1, 2)))
        row = urns_row(6, lot, 2)
        chance = pair(Fraction(0, 1))
        for points in combinations(range(7), 3):
            for kind in ("least", "most"):
                found = self.check((kind, row.text, 6, chance), (lot, points))
                right = {0, 2} <= set(points) and (
                    all(product_at(points, at) >= 0 for at in range(7)) if kind == "least" else
                    all(product_at(points, at) <= 0 for at in range(7)))
                self.assertEqual(found, right)

    def test_numbers_of_slips_without_an_end(self):
        slips = 10 ** 999
        row = urn_row(MOST, LONG, 3)
        self.assertIs(accepts(("misses", row.text, slips), (1, 2, 3)), False)
        self.assertIs(accepts(("comes", row.text, slips), ((1, (1, 1)),)), False)
        lot = ((0, (1, 2)), (slips, (1, 2)))
        both = Row((1, 0, 0, 0, 0, 1))
        self.assertTrue(self.check(("comes", both.text, slips), lot))
        self.assertIs(accepts(("share", both.text, slips, slips, (1, 2)), (lot, (1, 2, 3, 4, 5))), False)
        self.assertIs(accepts(("share", both.text, slips, slips, (1, 2)), (lot, (0, 1, 2, 3, 4))), True)
        self.assertIs(accepts(("share", both.text, slips, slips, (1, 2)), (lot, (0, 7, 8, 9, 10))), True)
        ends = (0, 1, 2, 3, slips - 1, slips)
        self.assertIs(accepts(("least", both.text, slips, (1, 2)), (lot, ends)), True)
        self.assertIs(accepts(("most", both.text, slips, (1, 2)), (lot, ends)), False)
        self.assertIs(accepts(("most", both.text, slips, (1, 2)), (lot, (0, 1, 2, 3, 4, slips))), True)


class AnyValues(CheckerCase):
    """False for all that is no claim or no certificate; nothing is raised."""

    VALUES = [
        *no_rows(), *no_integers(), *no_fractions(), 10 ** 40, -(10 ** 999), *KINDS, MOSTLY, MOSTLY.text, nested(10),
        nested_list(10), nested(9, "comes"), ("comes",), ("always",), ("comes", MOSTLY.text),
        ("always", MOSTLY.text, ()), (["comes"], MOSTLY.text, 4), ({}, MOSTLY.text), (Odd(), MOSTLY.text, 4),
        (b"comes", MOSTLY.text, 4), ("comes", MOSTLY, 4), ("comes", [], 4), ("comes", {}, 4), ("", "", ""),
    ]

    def test_claims(self):
        for value in self.VALUES:
            for _, certificate in RIGHT[::5]:
                self.assertIs(accepts(value, certificate), False)
            self.assertIs(accepts(value, value), False)

    def test_certificates(self):
        for value in self.VALUES:
            for claim, _ in RIGHT:
                if claim[0] == "always" or len(claim) == 3 and claim[2] < told_row(claim[1]).draws:
                    self.assertIs(accepts(claim, value), value.__class__ is tuple and value == ())
                elif value.__class__ is tuple:
                    self.assertIs(accepts(claim, value), plain_accepts(claim, value))
                else:
                    self.assertIs(accepts(claim, value), False)

    def test_parts(self):
        for value in self.VALUES:
            for claim, certificate in RIGHT[::2]:
                for at in range(len(claim)):
                    self.check((*claim[:at], value, *claim[at + 1:]), certificate)
                for at in range(len(certificate)):
                    self.check(claim, (*certificate[:at], value, *certificate[at + 1:]))
                    for inner in range(len(certificate[at]) if certificate[at].__class__ is tuple else 0):
                        part = (*certificate[at][:inner], value, *certificate[at][inner + 1:])
                        self.check(claim, (*certificate[:at], part, *certificate[at + 1:]))

    def test_no_kinds(self):
        for word in ("come", "Comes", "comes ", "", "missed", "last", "mosts", "likely", b"comes", None, 1, True):
            for claim, certificate in RIGHT:
                self.assertIs(accepts((word, *claim[1:]), certificate), False)

    def test_true_and_false_are_no_numbers(self):
        half = "draws 1\nyes 0 1\nyes 1 1"
        lot, points = ((1, (1, 1)),), (0, 1)
        self.assertIs(accepts(("least", half, 2, (0, 1)), (lot, points)), True)
        for claim, certificate in (
            (("comes", half, True), ((0, (1, 2)), (1, (1, 2)))),
            (("comes", half, 1), ((False, (1, 2)), (1, (1, 2)))),
            (("comes", half, 1), ((0, (1, 2)), (True, (1, 2)))),
            (("comes", half, 2), ((1, (True, 1)),)),
            (("comes", half, 2), ((1, (1, True)),)),
            (("misses", UNLIKE.text, 3), (True, 2)),
            (("misses", UNLIKE.text, True), ()),
            (("least", half, 2, (False, 1)), (lot, points)),
            (("least", half, 2, (0, True)), (lot, points)),
            (("least", half, 2, (0, 1)), (lot, (False, 1))),
            (("least", half, 2, (0, 1)), (lot, (0, True))),
            (("share", half, 2, True, (1, 1)), (lot, (0,))),
            (("share", half, 2, 1, (True, 1)), (lot, (0,))),
            (("share", half, 2, 1, (1, 1)), (lot, (False,))),
        ):
            self.assertIs(accepts(claim, certificate), False)
        self.assertIs(accepts(("share", half, 2, 1, (1, 1)), (lot, (0,))), True)

    def test_lists_are_no_tuples(self):
        for claim, certificate in RIGHT:
            self.assertIs(accepts(list(claim), certificate), False)
            self.assertIs(accepts(claim, list(certificate)), False)
            for at, part in enumerate(certificate):
                if part.__class__ is tuple:
                    self.assertIs(accepts(claim, (*certificate[:at], list(part), *certificate[at + 1:])), False)

    def test_what_is_passed_stays(self):
        inner = [1, [2, 3]]
        odd = {"claim": inner}
        for value in (inner, odd, ("comes", inner), ("comes", MOSTLY.text, inner)):
            accepts(value, inner)
            accepts(("comes", MOSTLY.text, 4), (value, inner))
        self.assertEqual([inner, odd], [[1, [2, 3]], {"claim": [1, [2, 3]]}])

    def test_what_says_that_it_is_equal_is_not(self):
        class Same:
            def __eq__(self, other):
                return True

        for claim, certificate in RIGHT:
            self.assertIs(accepts(claim, Same()), False)
            self.assertIs(accepts(Same(), certificate), False)
            for at in range(len(claim)):
                self.assertIs(accepts((*claim[:at], Same(), *claim[at + 1:]), certificate), False)
            for at in range(len(certificate)):
                self.assertIs(accepts(claim, (*certificate[:at], Same(), *certificate[at + 1:])), False)

    def test_values_of_each_kind(self):
        for value in unusual():
            self.assertIs(accepts(value, ()), False)
            self.assertIs(accepts(("always", EVENLY.text), value), False)
            self.assertIs(accepts(("always", value), ()), False)


if __name__ == "__main__":
    unittest.main()
