"""Of how many slips a row comes, the urns that show it, and tuples against it.

A lot of urns is told here by its *sums*: for j = 0, 1, 2 .. what the product
M(M - 1)..(M - j + 1) is on the average, M the yes slips of an urn, all of them
multiplied by one number above 0. A row of n draws has those up to j = n.

*Points* are ascending lists of integers from 0 to N. Of all lots with the same
sums below j, those on j even points (as the document calls tuples even) have
the least and the greatest sum for j. So a row comes of N slips if each of its
sums, one after the other, lies between the ends that those before it leave.
"""

from math import comb, factorial, isqrt, perm

from drawnmore.figures import check_number, lowest
from drawnmore.limits import MOST_SLIPS
from drawnmore.rows import check_row


def comes(row, slips):
    """Whether the row comes of so many slips."""
    _check(row, slips)
    return does_come(row, slips)


def urns(row, slips):
    """A lot of urns of so many slips that has the row, None if there is none."""
    _check(row, slips)
    return lot_with(row, slips)


def against(row, slips):
    """An even tuple that shows that the row does not come of so many slips, None if it does."""
    _check(row, slips)
    return tuple_against(row, slips)


def always(row):
    """Whether the row comes of all numbers of slips."""
    check_row(row)
    chances = yes_sums(row.counts)
    size = row.draws // 2
    less = [one - two for one, two in zip(chances, chances[1:])]
    if row.draws % 2 == 0:
        return _never_below(_table(chances, size + 1)) and _never_below(_table(less[1:], size))
    return _never_below(_table(chances[1:], size + 1)) and _never_below(_table(less, size + 1))


def greatest(row):
    """The greatest number of slips of which the row comes, None for all."""
    if always(row):
        return None
    low, high = row.draws, 2 * row.draws
    while does_come(row, high):
        low, high = high, high * high
    while high - low > 1:
        # As long as the end may be of any length, its lengths are parted.
        middle = isqrt(low * high) if high > 2 * low else (low + high) // 2
        if does_come(row, middle):
            low = middle
        else:
            high = middle
    return low


def does_come(row, slips):
    """Whether the row comes of so many slips, which may be any number from 1 on."""
    return slips >= row.draws and broken_points(row_sums(row.counts, slips), slips) is None


def lot_with(row, slips):
    """A lot of urns with the row, None if there is none, for any number of slips from 1 on."""
    if not does_come(row, slips):
        return None
    sums = row_sums(row.counts, slips)
    return shares_on(sums, highest_points(sums, row.draws + 1, slips))


def tuple_against(row, slips):
    """An even tuple against the row, None if it comes, for any number of slips from 1 on."""
    if slips < row.draws:
        return ()
    sums = row_sums(row.counts, slips)
    points = broken_points(sums, slips)
    if points is None:
        return None
    return tuple(filled(sums, points, slips))


def yes_sums(counts):
    """The all-yes chances for 0, 1, 2 .. draws that such counts tell.

    All are multiplied by the sum of the counts and by the factorial of the draws.
    """
    draws = len(counts) - 1
    return [
        sum([count * comb(k, j) for k, count in enumerate(counts)]) * factorial(j) * factorial(draws - j)
        for j in range(draws + 1)
    ]


def row_sums(counts, slips):
    """The sums of the lots of urns that have the row with such counts."""
    return [chance * perm(slips, j) for j, chance in enumerate(yes_sums(counts))]


def times(sums, points):
    """The sums if each urn's share is multiplied by the product of all M - a, a in the points.

    They are fewer, by one for each point.
    """
    for at in points:
        sums = [sums[j + 1] + (j - at) * sums[j] for j in range(len(sums) - 1)]
    return sums


def mean_on(sums, points, slips):
    """The mean of the polynomial of even points, multiplied as the sums are."""
    turn = 1
    free = slips
    while free in points:
        turn = -turn
        free -= 1
    return turn * times(sums[:len(points) + 1], points)[0]


def lowest_points(sums, many, slips):
    """So many points, on which is the lot with the least sum behind the first `many`.

    Those are all that is asked of the sums; they must be the sums of some lot.
    The product of all M - a, a in the points, is nowhere below 0.
    """
    told = sums[:many]
    if many % 2 == 0:
        return _pairs(told, many // 2, 0, slips, [])
    return [0, *_pairs(times(told, [0]), many // 2, 1, slips, [])]


def highest_points(sums, many, slips):
    """Likewise, with the greatest sum, and with a product that is nowhere above 0."""
    # Multiplied by N - M.
    told = [-one for one in times(sums[:many], [slips])]
    if many % 2 == 1:
        return [*_pairs(told, many // 2, 0, slips - 1, []), slips]
    return [0, *_pairs(times(told, [0]), many // 2 - 1, 1, slips - 1, []), slips]


def broken_points(sums, slips):
    """Even points, not more than are needed, with a mean below 0; None if there are none.

    Of all that are as many, with the same sign of the product, they have the least mean.
    """
    for many in range(1, len(sums)):
        for points in (lowest_points(sums, many, slips), highest_points(sums, many, slips)):
            if mean_on(sums, points, slips) < 0:
                return points
    return None


def filled(sums, points, slips):
    """As even points with a mean below 0: such ones, as many as there are sums behind the first."""
    while len(points) < len(sums) - 1:
        first, last = free_ends(points, slips)
        # The polynomial multiplied by M - first, and by last - M, is nowhere
        # below 0. Both add up to a multiple of it: one has a mean below 0, too.
        longer = sorted([first, *points])
        points = longer if mean_on(sums, longer, slips) < 0 else sorted([*points, last])
    return points


def free_ends(points, slips):
    """The least and the greatest integer from 0 to `slips` that is no point.

    Even points stay even with either of them, if at least one other is left.
    """
    first, last = 0, slips
    while first in points:
        first += 1
    while last in points:
        last -= 1
    return first, last


def shares_on(sums, points):
    """The lot of urns on these points, as many as there are sums, with the sums."""
    found = []
    for yes in points:
        others = [at for at in points if at != yes]
        top = times(sums, others)[0]
        bottom = sums[0]
        for at in others:
            bottom = bottom * (yes - at)
        # Both have one sign, as no share is below 0.
        if top != 0:
            found.append((yes, lowest(abs(top), abs(bottom))))
    return tuple(found)


def choices(most, many):
    """All ascending tuples of so many integers from 0 on below `most`, ascending."""
    found = [()]
    for _ in range(many):
        found = [(*some, at) for some in found for at in range(some[-1] + 1 if some else 0, most)]
    return found


def _check(row, slips):
    check_row(row)
    check_number(slips, 1, MOST_SLIPS)


def _table(chances, size):
    return [chances[i:i + size] for i in range(size)]


def _never_below(table):
    """Whether all minors along the corner line are from 0 on."""
    size = len(table)
    return all([
        _minor([[table[i][j] for j in some] for i in some]) >= 0
        for many in range(1, size + 1)
        for some in choices(size, many)
    ])


def _minor(table):
    if len(table) == 0:
        return 1
    total = 0
    turn = 1
    for j, corner in enumerate(table[0]):
        total = total + turn * corner * _minor([line[:j] + line[j + 1:] for line in table[1:]])
        turn = -turn
    return total


def _pairs(sums, many, least, most, taken):
    """So many pairs of neighbours on which a lot with these sums can be.

    The sums, two for each pair, are those of some lot on the integers from
    `least` to `most` without those taken. These are the places for the pairs;
    neighbours have no place between them. There always are such pairs.
    """
    if many == 0:
        return []
    low = least
    high = most - len(taken) - 2 * many + 1
    at = (low + high) // 2
    step = high - low + 1
    if many < 3:
        at = max(low, min(high, _about(sums, many, taken)))
        step = 1
    while True:
        pair = [_place(at, taken), _place(at + 1, taken)]
        others = _pairs(times(sums, pair), many - 1, least, most, sorted([*taken, *pair]))
        side = _side(times(sums, others), pair, others)
        # The last pair that is left is right.
        if side == 0 or low >= high:
            return sorted([*pair, *others])
        if side > 0:
            low = at + 1
        else:
            high = at - 1
        # The lowest pair is mostly near: steps that double, then halves.
        at = max(at - step, min(at + step, (low + high) // 2))
        step = 2 * step


def _place(at, taken):
    """The place with this number, if those taken are left out."""
    for one in taken:
        if at >= one:
            at += 1
    return at


def _side(rest, pair, others):
    """Where the lowest pair is: 0 if it is this one, 1 if above, -1 if below.

    `rest` are the sums multiplied by all M - a, a in the others. These are
    right if the pair is: their shares are from 0 on, and only those on the pair
    can be below 0. Where two lots with the same 2k sums differ, the difference
    has at least 2k changes of sign along the places. Held against a share below
    0, the right lot has room for so many only with a point below this pair; but
    with none if it is the lower share and all others are above.
    """
    # Between two others that are a pair, it is not the lowest, right or not.
    if len([at for at in others if at < pair[0]]) % 2 == 1:
        return -1
    # The shares on the pair, multiplied by something above 0.
    lower = pair[1] * rest[0] - rest[1]
    upper = rest[1] - pair[0] * rest[0]
    if lower >= 0 and upper >= 0:
        return 0
    if lower < 0 and all([at > pair[1] for at in others]):
        return 1
    return -1


def _about(sums, many, taken):
    """About where the lowest of one or two pairs is."""
    near = 0
    if sums[0] > 0:
        near = sums[1] // sums[0] if many == 1 else _lower_root(sums)
    return near - len([one for one in taken if one <= near])


def _lower_root(sums):
    """The lower one of two points with these sums, if they need not be integers."""
    more = times(sums, [0])
    double = sums[0] * more[1] - sums[1] * more[0]
    # All is on one point.
    if double == 0:
        return sums[1] // sums[0]
    middle = double + sums[0] * more[2] - sums[2] * more[0]
    last = sums[1] * more[2] - sums[2] * more[1]
    return (middle - isqrt(middle * middle - 4 * double * last)) // (2 * double)
