"""What a further draw can bring, and how far shares and counts can go."""

from math import comb, factorial, perm

from drawnmore.errors import NoChance, NoUrns, OtherDraws
from drawnmore.extending import broken_points, highest_points, lowest_points, mean_on, row_sums, times, yes_sums
from drawnmore.figures import check_number, lowest
from drawnmore.limits import MOST_SLIPS
from drawnmore.rows import check_row


def next_chances(row, slips):
    """The least and the greatest all-yes chance for one draw more."""
    check_row(row)
    check_number(slips, row.draws + 1, MOST_SLIPS)
    return _next_ends(row, slips)


def next_yes(row, yes, slips):
    """The least and the greatest chance of a further yes, if `yes` of the draws were yes."""
    check_row(row)
    check_number(yes, 0, row.draws)
    check_number(slips, row.draws + 1, MOST_SLIPS)
    least, most = _next_ends(row, slips)
    if row.counts[yes] == 0:
        raise NoChance()
    ends = _yes_behind(row, yes, least), _yes_behind(row, yes, most)
    # Behind each no, more of all yes leaves less of a further yes.
    return ends if (row.draws - yes) % 2 == 0 else ends[::-1]


def most_share(row, slips, yes):
    """The greatest share of the urn with so many yes slips in lots that have the row."""
    return share_and_points(row, slips, yes)[0]


def share_and_points(row, slips, yes):
    """The greatest share of that urn, and even points without `yes`.

    All other urns of the lots in which it has this share are on the points.
    """
    check_row(row)
    check_number(slips, row.draws, MOST_SLIPS)
    check_number(yes, 0, slips)
    sums = _sums_of_lots(row, slips)
    urn = [sums[0] * perm(yes, j) for j in range(len(sums))]
    # All of it is taken to be this urn, and as little of that taken back as need be.
    (top, bottom), points = _part_and_points([one - two for one, two in zip(sums, urn)], urn, slips)
    return (bottom - top, bottom), points


def least_share(row, other, slips):
    """The least share of the other row with which both mixed come of the slips, None for none."""
    check_row(row)
    check_row(other)
    check_number(slips, row.draws, MOST_SLIPS)
    if other.draws != row.draws:
        raise OtherDraws(other.draws)
    ours = [sum(other.counts) * one for one in row_sums(row.counts, slips)]
    theirs = [sum(row.counts) * one for one in row_sums(other.counts, slips)]
    share = _least_part(ours, [two - one for one, two in zip(ours, theirs)], slips)
    if share is None or share[0] > share[1]:
        return None
    return share


def stretch(row, yes, slips):
    """The least and the greatest count there with which the counts come of the slips."""
    check_row(row)
    check_number(yes, 0, row.draws)
    check_number(slips, row.draws, MOST_SLIPS)
    one = [1 if k == yes else 0 for k in range(row.draws + 1)]
    others = [0 if k == yes else count for k, count in enumerate(row.counts)]
    return _ends_of_count(row_sums(one, slips), row_sums(others, slips), slips)


def _sums_of_lots(row, slips):
    """The row's sums; raises NoUrns if it does not come of the slips."""
    sums = row_sums(row.counts, slips)
    if broken_points(sums, slips) is not None:
        raise NoUrns()
    return sums


def _next_ends(row, slips):
    sums = _sums_of_lots(row, slips)
    many = len(sums)
    return (
        _next_chance(sums, lowest_points(sums, many, slips), slips),
        _next_chance(sums, highest_points(sums, many, slips), slips),
    )


def _next_chance(sums, points, slips):
    """The all-yes chance for one draw more of the lot on these points with the sums."""
    # The product of all M - a has the mean 0 there, so the sum that is not
    # told lacks just what the product has without it.
    lacking = -times([*sums, 0], points)[0]
    return lowest(lacking, sums[0] * perm(slips, len(sums)))


def _yes_behind(row, yes, chance):
    """The chance of a further yes, if this is the all-yes chance for one draw more."""
    told = yes_sums(row.counts)
    top, bottom = chance
    others = row.draws - yes
    # One order of so many yes, the further one and the others no, told by
    # all-yes chances: each no is what is not yes.
    order = 0
    turn = 1
    for more in range(others):
        order = order + turn * comb(others, more) * told[yes + 1 + more]
        turn = -turn
    hits = order * bottom + turn * top * told[0]
    return lowest(hits * comb(row.draws, yes), factorial(row.draws) * bottom * row.counts[yes])


def _ends_of_count(one, others, slips):
    """The ends of a count, by the sums that one of it has, and by those of the other counts."""
    endless = broken_points(one, slips) is None
    if others[0] == 0:
        return (1, None) if endless else None
    part = _least_part(others, one, slips)
    if part is None:
        return None
    least = -(-part[0] // part[1])
    if endless:
        return least, None
    # The greatest count is the one to which the least part of the others is put.
    part = _least_part(one, others, slips)
    most = 0 if part is None else part[1] // part[0]
    return (least, most) if least <= most else None


def _least_part(sums, more, slips):
    """The least fraction t from 0 on with which sums + t * more are those of a lot, None for none."""
    found = _part_and_points(sums, more, slips)
    return None if found is None else found[0]


def _part_and_points(sums, more, slips):
    """That fraction, and even points whose mean is above 0 for `more`, and 0 with the fraction.

    There are no points if the fraction is 0. Where a mean is below 0, it takes
    at least the t with which it is 0; if it does not grow with t, none will do.
    As it is the least mean of its kind, a few such steps are enough, as with
    Newton's method.
    """
    top, bottom = 0, 1
    reached = []
    while True:
        points = broken_points([bottom * one + top * two for one, two in zip(sums, more)], slips)
        if points is None:
            return (top, bottom), reached
        gain = mean_on(more, points, slips)
        if gain <= 0:
            return None
        top, bottom = lowest(-mean_on(sums, points, slips), gain)
        reached = points
