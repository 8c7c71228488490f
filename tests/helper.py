"""What several tests need: wrong values, sample rows, and rows worked out
order by order, the slow and plain way."""

import unittest
from fractions import Fraction
from itertools import permutations, product
from math import comb, gcd, lcm

from drawnmore.rows import Row

MOST = 10 ** 30


def nested(depth, inside=1):
    """A value in a tuple in a tuple .., so many deep."""
    for _ in range(depth):
        inside = (inside,)
    return inside


def nested_list(depth):
    inside = []
    for _ in range(depth - 1):
        inside = [inside]
    return inside


class Odd:
    """A value of another kind; equal to nothing but itself."""


def unusual():
    """Values of all kinds that are no integer, string, tuple or row."""
    return [
        None, True, False, b"", b"draws 1", [], [0, 1], {}, {0: 1}, {1, 2}, frozenset(),
        range(3), len, int, Odd, Odd(), ValueError("x"), Fraction(1, 2), nested_list(10),
        Ellipsis, NotImplemented, iter((1, 2)), 1j,
    ]


def no_integers():
    """Values of all kinds, but no integer."""
    return [
        *unusual(), "", "1", "-1", "draws 1", (), (1,), (0, 1), (1, 2), nested(10),
        Row((1, 1)),
    ]


def no_numbers(least, most):
    """Whatever is no integer within these bounds."""
    return [*no_integers(), least - 1, most + 1, -1, -7, -MOST, most + 10 ** 40, 10 ** 999, -(10 ** 999)]


def no_rows():
    """Values of all kinds, but no row."""
    return [
        *unusual(), 0, 1, -1, 10 ** 999, "", "draws 1\nyes 0 1\nyes 1 1", (), (1, 1), (0, 1, 0),
        (Row((1, 1)),), [Row((1, 1))], nested(10), nested(9, Row((1, 1))), Row,
    ]


def no_fractions():
    """Whatever is no pair of integers in lowest terms with a bottom from 1 on."""
    return [
        *unusual(), 0, 1, -1, 10 ** 999, "", "1/2", "12", (), (1,), (1, 2, 3), (1, 2, 2), [1, 2],
        (0, 0), (1, 0), (-1, 0), (0, -1), (1, -2), (-1, -2), (0, 2), (2, 2), (2, 4), (-2, 4),
        (3, 6), (True, 2), (1, True), (False, 1), (True, True), (None, 2), (1, None), ("1", 2),
        (1, "2"), (1, [2]), ((1, 2), 1), (1, (2, 1)), ((1, 2), (1, 2)), (Fraction(1, 2), 1),
        (2 * 10 ** 998, 4 * 10 ** 998), nested(10), (nested(9), 2), (1, nested(9)), Row((1, 1)),
        (Row((1, 1)), 2),
    ]


def no_chances():
    """Whatever is no fraction from 0 to 1."""
    return [*no_fractions(), (-1, 1), (-1, 2), (2, 1), (3, 2), (MOST + 1, MOST), (-1, 10 ** 999)]


def plain(values):
    """The plain counts that stand to one another as these numbers."""
    values = [Fraction(value) for value in values]
    bottom = lcm(*[value.denominator for value in values])
    whole = [int(value * bottom) for value in values]
    common = gcd(*whole)
    return tuple(value // common for value in whole)


def rates(row):
    """The rates of a row, from its counts alone."""
    return [Fraction(count, sum(row.counts)) for count in row.counts]


def pair(value):
    """A fraction as the package tells it."""
    return (Fraction(value).numerator, Fraction(value).denominator)


def orders(row):
    """The chance of each order of yes (1) and no (0)."""
    shares = rates(row)
    many = len(shares) - 1
    return {
        order: shares[sum(order)] / comb(many, sum(order))
        for order in product((0, 1), repeat=many)
    }


def from_orders(chances):
    """The plain counts of a row with such chances of its orders."""
    many = len(next(iter(chances)))
    sums = [Fraction(0)] * (many + 1)
    for order, chance in chances.items():
        sums[sum(order)] += chance
    return plain(sums)


def drawn(slips, yes, draws):
    """The chances of an urn, gone through slip by slip."""
    found = [0] * (draws + 1)
    for taken in permutations(range(slips), draws):
        found[sum(slip < yes for slip in taken)] += 1
    return [Fraction(count, sum(found)) for count in found]


def thrown(top, bottom, draws):
    """The chances of a coin, gone through side by side."""
    found = [0] * (draws + 1)
    for sides in product(range(bottom), repeat=draws):
        found[sum(side < top for side in sides)] += 1
    return [Fraction(count, sum(found)) for count in found]


def picker(seed):
    """A function that gives one number below another after the other."""
    state = [seed]

    def pick(below):
        state[0] = (state[0] * 6364136223846793005 + 1442695040888963407) & (2 ** 64 - 1)
        return (state[0] >> 20) % below

    return pick


def small_rows(most_draws, most_count):
    """All rows of so many draws with counts up to this one."""
    return [
        Row(counts)
        for draws in range(1, most_draws + 1)
        for counts in product(range(most_count + 1), repeat=draws + 1)
        if any(counts)
    ]


def some_rows(many, seed=1):
    """Rows of one to five draws, with small and great counts and many a 0."""
    pick = picker(seed)
    found = []
    while len(found) < many:
        bound = (2, 9, 10 ** 6, 10 ** 18)[pick(4)]
        counts = tuple(pick(bound) * (pick(3) > 0) for _ in range(2 + pick(5)))
        if any(counts):
            found.append(Row(counts))
    return found


def some_fractions(many, below, seed=1):
    """Fractions from 0 to 1, as the package takes them."""
    pick = picker(seed)
    found = []
    for _ in range(many):
        bottom = 1 + pick(below)
        found.append(pair(Fraction(pick(bottom + 1), bottom)))
    return found


class Case(unittest.TestCase):
    """Tests with a word for raised errors."""

    def assert_raises(self, error, told, call, *args, **more):
        """The call raises an error of just this class with this attribute,
        a pair of its name and its value, or with none for None."""
        try:
            found = call(*args, **more)
        except Exception as raised:
            self.assertIs(error, raised.__class__, (call, raised))
            if told is not None:
                name, value = told
                right = getattr(raised, name)
                self.assertIs(right.__class__, value.__class__, call)
                # What was passed comes back as it is; only texts are made anew.
                same = right == value if isinstance(value, (int, str)) else right is value
                self.assertTrue(same, (call, told))
            return
        self.fail(f"{call} {more} raised nothing and returned a {found.__class__.__name__}")

    def assert_same_row(self, row, counts):
        """This is a row with these plain counts, each of them an int."""
        self.assertIs(row.__class__, Row)
        self.assertEqual(row.counts, counts)
        self.assertTrue(all(count.__class__ is int for count in row.counts))

    def assert_fraction(self, value, right):
        """This is a fraction as the package tells them, with this value."""
        self.assertIs(value.__class__, tuple)
        self.assertEqual([part.__class__ for part in value], [int, int])
        self.assertEqual(value, pair(right))
