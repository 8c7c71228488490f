"""What several tests need: wrong values, sample rows, rows worked out order by
order, lots of urns found by trying all points, and certificates held against
the words of the document, the slow and plain way."""

import re
import unittest
from fractions import Fraction
from functools import lru_cache
from itertools import combinations, permutations, product
from math import comb, gcd, lcm

from drawnmore.extending import always, greatest
from drawnmore.further import most_share, next_chances
from drawnmore.mends import holds
from drawnmore.rows import Row

MOST = 10 ** 30


def nested(depth, inside=1):
    """A value in a tuple in a tuple .., so many deep."""
    for _ in range(depth):
        inside = (inside,)
    return inside


def nested_list(depth):
    inside = []
    for _ in range(depth - 1):
        inside = [inside]
    return inside


class Odd:
    """A value of another kind; equal to nothing but itself."""


def unusual():
    """Values of all kinds that are no integer, string, tuple or row."""
    return [
        None, True, False, b"", b"draws 1", [], [0, 1], {}, {0: 1}, {1, 2}, frozenset(),
        range(3), len, int, Odd, Odd(), ValueError("x"), Fraction(1, 2), nested_list(10),
        Ellipsis, NotImplemented, iter((1, 2)), 1j,
    ]


def no_integers():
    """Values of all kinds, but no integer."""
    return [
        *unusual(), "", "1", "-1", "draws 1", (), (1,), (0, 1), (1, 2), nested(10),
        Row((1, 1)),
    ]


def no_numbers(least, most):
    """Whatever is no integer within these bounds."""
    return [*no_integers(), least - 1, most + 1, -1, -7, -MOST, most + 10 ** 40, 10 ** 999, -(10 ** 999)]


def no_rows():
    """Values of all kinds, but no row."""
    return [
        *unusual(), 0, 1, -1, 10 ** 999, "", "draws 1\nyes 0 1\nyes 1 1", (), (1, 1), (0, 1, 0),
        (Row((1, 1)),), [Row((1, 1))], nested(10), nested(9, Row((1, 1))), Row,
    ]


def no_fractions():
    """Whatever is no pair of integers in lowest terms with a bottom from 1 on."""
    return [
        *unusual(), 0, 1, -1, 10 ** 999, "", "1/2", "12", (), (1,), (1, 2, 3), (1, 2, 2), [1, 2],
        (0, 0), (1, 0), (-1, 0), (0, -1), (1, -2), (-1, -2), (0, 2), (2, 2), (2, 4), (-2, 4),
        (3, 6), (True, 2), (1, True), (False, 1), (True, True), (None, 2), (1, None), ("1", 2),
        (1, "2"), (1, [2]), ((1, 2), 1), (1, (2, 1)), ((1, 2), (1, 2)), (Fraction(1, 2), 1),
        (2 * 10 ** 998, 4 * 10 ** 998), nested(10), (nested(9), 2), (1, nested(9)), Row((1, 1)),
        (Row((1, 1)), 2),
    ]


def no_chances():
    """Whatever is no fraction from 0 to 1."""
    return [*no_fractions(), (-1, 1), (-1, 2), (2, 1), (3, 2), (MOST + 1, MOST), (-1, 10 ** 999)]


def plain(values):
    """The plain counts that stand to one another as these numbers."""
    values = [Fraction(value) for value in values]
    bottom = lcm(*[value.denominator for value in values])
    whole = [int(value * bottom) for value in values]
    common = gcd(*whole)
    return tuple(value // common for value in whole)


def rates(row):
    """The rates of a row, from its counts alone."""
    return [Fraction(count, sum(row.counts)) for count in row.counts]


def pair(value):
    """A fraction as the package tells it."""
    return (Fraction(value).numerator, Fraction(value).denominator)


def orders(row):
    """The chance of each order of yes (1) and no (0)."""
    shares = rates(row)
    many = len(shares) - 1
    return {
        order: shares[sum(order)] / comb(many, sum(order))
        for order in product((0, 1), repeat=many)
    }


def from_orders(chances):
    """The plain counts of a row with such chances of its orders."""
    many = len(next(iter(chances)))
    sums = [Fraction(0)] * (many + 1)
    for order, chance in chances.items():
        sums[sum(order)] += chance
    return plain(sums)


def drawn(slips, yes, draws):
    """The chances of an urn, gone through slip by slip."""
    found = [0] * (draws + 1)
    for taken in permutations(range(slips), draws):
        found[sum(slip < yes for slip in taken)] += 1
    return [Fraction(count, sum(found)) for count in found]


def thrown(top, bottom, draws):
    """The chances of a coin, gone through side by side."""
    found = [0] * (draws + 1)
    for sides in product(range(bottom), repeat=draws):
        found[sum(side < top for side in sides)] += 1
    return [Fraction(count, sum(found)) for count in found]


def row_of(values):
    """The row whose counts stand to one another as these numbers; None if one is
    below 0 or all are 0."""
    values = [Fraction(value) for value in values]
    if min(values) < 0 or max(values) == 0:
        return None
    return Row(plain(values))


def urn_rates(slips, yes, draws):
    """The rates of an urn."""
    return [Fraction(comb(yes, k) * comb(slips - yes, draws - k), comb(slips, draws)) for k in range(draws + 1)]


def turned_about(table):
    """The table that takes back what a square table with fractions does."""
    size = len(table)
    lines = [[*line, *[Fraction(i == j) for j in range(size)]] for i, line in enumerate(table)]
    for at in range(size):
        found = next(k for k in range(at, size) if lines[k][at] != 0)
        lines[at], lines[found] = lines[found], lines[at]
        lines[at] = [value / lines[at][at] for value in lines[at]]
        for k in range(size):
            if k != at and lines[k][at] != 0:
                lines[k] = [one - lines[k][at] * two for one, two in zip(lines[k], lines[at])]
    return [line[size:] for line in lines]


@lru_cache(maxsize=None)
def ways_back(slips, draws):
    """For all sets of draws + 1 urns: what makes their shares of the rates.

    All in integers, as pairs of the urns and of the lines of a table, multiplied
    by a number above 0.
    """
    found = []
    for urns in combinations(range(slips + 1), draws + 1):
        columns = [urn_rates(slips, yes, draws) for yes in urns]
        table = turned_about([[column[k] for column in columns] for k in range(draws + 1)])
        bottom = lcm(*[value.denominator for line in table for value in line])
        found.append((urns, [[int(value * bottom) for value in line] for line in table], bottom))
    return found


def tried_lots(row, slips):
    """All lots of at most draws + 1 urns with the row, as dicts from yes slips to shares.

    If any lot has the row, then one of these; and of all lots these have the
    least and the greatest of whatever is added up from the shares.
    """
    many = sum(row.counts)
    found = []
    for urns, table, bottom in ways_back(slips, row.draws):
        tops = []
        for line in table:
            tops.append(sum(a * count for a, count in zip(line, row.counts)))
            if tops[-1] < 0:
                break
        else:
            found.append({yes: Fraction(top, bottom * many) for yes, top in zip(urns, tops)})
    return found


def chance_of_all(row, many):
    """The all-yes chance, from the rates alone."""
    return sum(rate * Fraction(comb(k, many), comb(row.draws, many)) for k, rate in enumerate(rates(row)))


def mean_of(row, slips, function):
    """The mean of a polynomial whose degree is at most that of the draws, as the document tells it."""
    steps = [function(yes) for yes in range(row.draws + 1)]
    total = Fraction(0)
    for j in range(row.draws + 1):
        total += steps[0] * chance_of_all(row, j) * comb(slips, j)
        steps = [two - one for one, two in zip(steps, steps[1:])]
    return total


def product_at(points, at):
    """The product of all at - a."""
    found = 1
    for point in points:
        found *= at - point
    return found


def is_even(points, slips):
    """Whether a tuple is even for so many slips, by parting it."""
    points = list(points)
    if any(two <= one for one, two in zip(points, points[1:])) or len(points) > slips:
        return False
    if points and not 0 <= points[0] <= points[-1] <= slips:
        return False
    for alone in (points, points[1:] if points[:1] == [0] else points):
        for left in (alone, alone[:-1] if alone[-1:] == [slips] else alone):
            if len(left) % 2 == 0 and all(left[k] + 1 == left[k + 1] for k in range(0, len(left), 2)):
                return True
    return False


def sign_of(points, slips):
    """1 or -1, as the product of all M - a is nowhere below or nowhere above 0.

    It is looked at on both sides of each point, where it could change; None if
    it does.
    """
    near = {at + step for at in points for step in range(-6, 7)} | {0, slips}
    values = [product_at(points, at) for at in near if 0 <= at <= slips]
    if min(values) >= 0:
        return 1
    return -1 if max(values) <= 0 else None


def longer(row, chance):
    """The row of one draw more with this all-yes chance for all of them; None if there is none."""
    chances = [*[chance_of_all(row, j) for j in range(row.draws + 1)], Fraction(*chance)]
    many = row.draws + 1
    orders = [
        sum((-1) ** i * comb(many - k, i) * chances[k + i] for i in range(many - k + 1))
        for k in range(many + 1)
    ]
    return row_of([comb(many, k) * order for k, order in enumerate(orders)])


def lot_rows(many, most_slips, seed=1):
    """Rows of lots of few urns: rows at the edge of what comes of their slips."""
    pick = picker(seed)
    found = []
    while len(found) < many:
        draws = 1 + pick(5)
        slips = draws + pick(most_slips - draws + 1)
        sums = [Fraction(0)] * (draws + 1)
        for _ in range(1 + pick(4)):
            weight = (1, 1, 2, 7, 10 ** 12)[pick(5)]
            sums = [one + weight * two for one, two in zip(sums, urn_rates(slips, pick(slips + 1), draws))]
        found.append(Row(plain(sums)))
    return found


def great_lots(many, slips, seed):
    """Rows of lots of urns of so many slips, with draws from 1 to 5, near the ends and in the middle."""
    pick = picker(seed)
    found = []
    for _ in range(many):
        places = {
            (pick(slips + 1), pick(min(slips, 9) + 1), slips - pick(min(slips, 9) + 1), slips // 2 + pick(3))[pick(4)]
            for _ in range(1 + pick(5))
        }
        weights = [1 + pick((1, 9, 10 ** 20)[pick(3)]) for _ in places]
        draws = 1 + pick(5)
        sums = [Fraction(0)] * (draws + 1)
        for yes, weight in zip(sorted(places), weights):
            sums = [one + weight * two for one, two in zip(sums, urn_rates(slips, yes, draws))]
        found.append(Row(plain(sums)))
    return found


def picker(seed):
    """A function that gives one number below another after the other."""
    state = [seed]

    def pick(below):
        state[0] = (state[0] * 6364136223846793005 + 1442695040888963407) & (2 ** 64 - 1)
        return (state[0] >> 20) % below

    return pick


def small_rows(most_draws, most_count):
    """All rows of so many draws with counts up to this one."""
    return [
        Row(counts)
        for draws in range(1, most_draws + 1)
        for counts in product(range(most_count + 1), repeat=draws + 1)
        if any(counts)
    ]


def some_rows(many, seed=1):
    """Rows of one to five draws, with small and great counts and many a 0."""
    pick = picker(seed)
    found = []
    while len(found) < many:
        bound = (2, 9, 10 ** 6, 10 ** 18)[pick(4)]
        counts = tuple(pick(bound) * (pick(3) > 0) for _ in range(2 + pick(5)))
        if any(counts):
            found.append(Row(counts))
    return found


def some_fractions(many, below, seed=1):
    """Fractions from 0 to 1, as the package takes them."""
    pick = picker(seed)
    found = []
    for _ in range(many):
        bottom = 1 + pick(below)
        found.append(pair(Fraction(pick(bottom + 1), bottom)))
    return found


def told_row(text):
    """The row with this text, None if it has not the lines that the document tells."""
    if text.__class__ is not str:
        return None
    for draws in range(1, 6):
        lines = [f"draws {draws}", *[f"yes {yes} (0|[1-9][0-9]*)" for yes in range(draws + 1)]]
        found = re.fullmatch("\n".join(lines), text)
        if found and any(map(int, found.groups())):
            return Row(tuple(map(int, found.groups())))
    return None


def is_int(value, least, most=None):
    return value.__class__ is int and value >= least and (most is None or value <= most)


def is_fraction(value):
    if value.__class__ is not tuple or [part.__class__ for part in value] != [int, int]:
        return False
    return value[1] > 0 and value == pair(Fraction(*value))


def is_lot(value, row, slips):
    """Whether this is a lot of urns of so many slips that has the row."""
    if value.__class__ is not tuple or slips < row.draws:
        return False
    if not all(urn.__class__ is tuple and len(urn) == 2 for urn in value):
        return False
    if not all(is_int(yes, 0, slips) and is_fraction(share) and share[0] > 0 for yes, share in value):
        return False
    if any(two[0] <= one[0] for one, two in zip(value, value[1:])):
        return False
    sums = [Fraction(0)] * (row.draws + 1)
    for yes, share in value:
        sums = [one + Fraction(*share) * two for one, two in zip(sums, urn_rates(slips, yes, row.draws))]
    return sums == rates(row)


def is_ascending(value, many, slips):
    """Whether this is a tuple of so many ascending integers from 0 to the slips."""
    if value.__class__ is not tuple or len(value) != many or not all(is_int(at, 0, slips) for at in value):
        return False
    return list(value) == sorted(set(value))


def plain_accepts(claim, certificate):
    """Whether the document calls this a claim, and a certificate for it."""
    if claim.__class__ is not tuple or len(claim) < 2 or claim[0].__class__ is not str:
        return False
    kind, text, *more = claim
    row = told_row(text)
    parts = {"comes": 1, "misses": 1, "greatest": 1, "always": 0, "least": 2, "most": 2, "share": 3}
    if row is None or parts.get(kind) != len(more):
        return False
    if kind == "always":
        return always(row) and certificate.__class__ is tuple and certificate == ()
    if not is_int(more[0], 1):
        return False
    if kind == "comes":
        return is_lot(certificate, row, more[0])
    if kind == "misses":
        return plain_misses(row, more[0], certificate)
    if certificate.__class__ is not tuple or len(certificate) != 2:
        return False
    if kind == "greatest":
        return is_lot(certificate[0], row, more[0]) and plain_misses(row, more[0] + 1, certificate[1])
    if not is_fraction(more[-1]) or not is_lot(certificate[0], row, more[0]):
        return False
    if kind == "share":
        return plain_share(row, *more, *certificate)
    return plain_end(row, *more, *certificate, 1 if kind == "least" else -1)


def plain_misses(row, slips, points):
    if slips < row.draws:
        return points.__class__ is tuple and points == ()
    if not is_ascending(points, row.draws, slips) or not is_even(points, slips):
        return False
    turn = sign_of(points, slips)
    return mean_of(row, slips, lambda at: turn * product_at(points, at)) < 0


def plain_end(row, slips, chance, lot, points, sign):
    many = row.draws + 1
    if slips < many or not is_ascending(points, many, slips) or not {yes for yes, _ in lot} <= set(points):
        return False
    right = sum(Fraction(*share) * Fraction(comb(yes, many), comb(slips, many)) for yes, share in lot)
    return chance == pair(right) and sign_of(points, slips) == sign


def plain_share(row, slips, yes, share, lot, points):
    if not is_int(yes, 0, slips) or dict(lot).get(yes, (0, 1)) != share:
        return False
    if not is_ascending(points, row.draws, slips) or not is_even(points, slips) or yes in points:
        return False
    turn = sign_of(points, slips)
    mean = mean_of(row, slips, lambda at: turn * product_at(points, at))
    return mean == Fraction(*share) * turn * product_at(points, yes)


def is_true(claim):
    """Whether a claim is true, by what the other modules tell of its row."""
    kind, text, *more = claim
    row = Row.read(text)
    if kind == "always":
        return always(row)
    if kind in ("comes", "misses"):
        return holds(row, (kind, more[0]))
    if kind == "greatest":
        return greatest(row) == more[0]
    if kind == "share":
        return most_share(row, more[0], more[1]) == more[2]
    return next_chances(row, more[0])[("least", "most").index(kind)] == more[1]


def otherwise(value):
    """The value with one part otherwise, at any place and depth; also some that are as it is."""
    yield from (None, (), [], {}, "", Odd())
    if value.__class__ is int:
        yield from (value + 1, value - 1, -value, 2 * value, 0, 1, True, False, str(value), Fraction(value), MOST, 10 ** 40)
        yield from ((value,), [value], (value, 1))
    elif value.__class__ is str:
        yield from (value + " ", " " + value, value + "\n", value[1:], value[:-1], value.upper(), value.encode(), 0, True)
        yield from ((value,), [value], value.split("\n"))
        yield from ("comes", "misses", "greatest", "always", "least", "most", "share")
        lines = value.split("\n")
        for other in turns(lines):
            yield "\n".join(other)
        for at in range(len(value)):
            yield from (value[:at] + sign + value[at + 1:] for sign in ("", "0", "1", "7", " "))
    elif value.__class__ is tuple:
        yield from (list(value), (value,), dict(enumerate(value)), True, 0, value * 2)
        yield from ((*value, 0), (0, *value), (*value, ()), (*value, (0, (1, 1))))
        for other in turns(list(value)):
            yield tuple(other)
        for at, part in enumerate(value):
            for other in otherwise(part):
                yield (*value[:at], other, *value[at + 1:])


def turns(parts):
    """Parts in another sequence, with one left out, twice, or exchanged."""
    yield parts[::-1]
    for at in range(len(parts)):
        yield parts[:at] + parts[at + 1:]
        yield parts[:at] + parts[at:at + 1] + parts[at:]
        yield parts[:at] + parts[at + 1:at + 2] + parts[at:at + 1] + parts[at + 2:]


def given(error, values):
    """A parameter's wrong values for a table of calls; the error keeps them as they are."""
    return (error, "given", [(value, value) for value in values])


def index(error, values):
    """A parameter's wrong values for a table of calls, each with the index that is due."""
    return (error, "index", values)


class CallTable:
    """Tests over CALLS: each function with right arguments, and with the wrong
    ones in the order of the signature."""

    CALLS = []

    def test_one_wrong(self):
        for call, right, wrong in self.CALLS:
            for name, (error, attribute, values) in wrong.items():
                for value, told in values:
                    arguments = {**right, name: value}
                    self.assert_raises(error, (attribute, told), call, **arguments)
                    self.assert_raises(error, (attribute, told), call, *arguments.values())

    def test_the_first_in_the_order_of_the_signature(self):
        for call, right, wrong in self.CALLS:
            for many in range(2, len(right) + 1):
                for names in combinations(right, many):
                    error, attribute, values = wrong[names[0]]
                    for at, (value, told) in enumerate(values):
                        arguments = {**right, names[0]: value}
                        for name in names[1:]:
                            others = wrong[name][2]
                            arguments[name] = others[at * 7 % len(others)][0]
                        self.assert_raises(error, (attribute, told), call, **arguments)

    def test_all_wrong_pairs_of_the_last_two(self):
        for call, right, wrong in self.CALLS:
            if len(right) > 1:
                first, second = list(right)[-2:]
                error, attribute, values = wrong[first]
                for value, told in values[::5]:
                    for other, _ in wrong[second][2][::5]:
                        arguments = {**right, first: value, second: other}
                        self.assert_raises(error, (attribute, told), call, **arguments)


class Case(unittest.TestCase):
    """Tests with a word for raised errors."""

    def assert_raises(self, error, told, call, *args, **more):
        """The call raises an error of just this class with this attribute,
        a pair of its name and its value, or with none for None."""
        try:
            found = call(*args, **more)
        except Exception as raised:
            self.assertIs(error, raised.__class__, (call, raised))
            if told is not None:
                name, value = told
                right = getattr(raised, name)
                self.assertIs(right.__class__, value.__class__, call)
                # What was passed comes back as it is; only texts are made anew.
                same = right == value if isinstance(value, (int, str)) else right is value
                self.assertTrue(same, (call, told))
            return
        self.fail(f"{call} {more} raised nothing and returned a {found.__class__.__name__}")

    def assert_same_row(self, row, counts):
        """This is a row with these plain counts, each of them an int."""
        self.assertIs(row.__class__, Row)
        self.assertEqual(row.counts, counts)
        self.assertTrue(all(count.__class__ is int for count in row.counts))

    def assert_fraction(self, value, right):
        """This is a fraction as the package tells them, with this value."""
        self.assertIs(value.__class__, tuple)
        self.assertEqual([part.__class__ for part in value], [int, int])
        self.assertEqual(value, pair(right))

    def assert_lot(self, urns, row, slips):
        """This is a lot of urns that has the row."""
        self.assertIs(urns.__class__, tuple)
        self.assertTrue(all(urn.__class__ is tuple and len(urn) == 2 for urn in urns))
        many = [yes for yes, _ in urns]
        self.assertTrue(all(yes.__class__ is int and 0 <= yes <= slips for yes in many))
        self.assertEqual(many, sorted(set(many)))
        sums = [Fraction(0)] * (row.draws + 1)
        for yes, share in urns:
            self.assert_fraction(share, Fraction(*share))
            self.assertGreater(Fraction(*share), 0)
            sums = [one + Fraction(*share) * two for one, two in zip(sums, urn_rates(slips, yes, row.draws))]
        self.assertEqual(sum(Fraction(*share) for _, share in urns), 1)
        self.assertTrue(sums == rates(row))

    def assert_tells_against(self, points, row, slips):
        """This is an even tuple that shows that the row does not come of so many slips, not below its draws."""
        self.assertIs(points.__class__, tuple)
        self.assertEqual([point.__class__ for point in points], [int] * row.draws)
        self.assertTrue(is_even(points, slips), (points, slips))
        turn = sign_of(points, slips)
        self.assertIsNotNone(turn)
        self.assertLess(mean_of(row, slips, lambda at: turn * product_at(points, at)), 0)
