"""The checker: whether a certificate shows a claim, without a search.

A lot of urns shows what there is. A product of some M - a that is nowhere
below 0, or nowhere above, shows that there is no more: its mean is not, either.
"""

from math import comb, lcm

from drawnmore.errors import InvalidText, InvalidUrns
from drawnmore.extending import always, mean_on, row_sums, times
from drawnmore.figures import is_fraction, is_whole, lowest
from drawnmore.making import all_yes, check_urns
from drawnmore.rows import Row


def accepts(claim, certificate):
    """Whether this is a claim, and a certificate for it."""
    if not isinstance(claim, tuple) or len(claim) < 2 or not isinstance(claim[0], str):
        return False
    kind, text, *more = claim
    row = _told_row(text)
    if row is None:
        return False
    if kind == "always":
        return len(more) == 0 and _is_tuple(certificate, 0) and always(row)
    if len(more) == 0 or not is_whole(more[0]) or more[0] < 1:
        return False
    return _shows(row, kind, more[0], more[1:], certificate)


def _told_row(text):
    """The row with this text, None if it is none of a row."""
    try:
        return Row.read(text)
    except InvalidText:
        return None


def _is_tuple(value, many):
    return isinstance(value, tuple) and len(value) == many


def _shows(row, kind, slips, more, certificate):
    """Whether the certificate shows the claim of this kind for so many slips."""
    if kind == "comes":
        return len(more) == 0 and _shows_comes(row, slips, certificate)
    if kind == "misses":
        return len(more) == 0 and _shows_misses(row, slips, certificate)
    if kind == "greatest":
        return len(more) == 0 and _shows_greatest(row, slips, certificate)
    if kind == "least":
        return len(more) == 1 and _shows_end(row, slips, more[0], certificate, 1)
    if kind == "most":
        return len(more) == 1 and _shows_end(row, slips, more[0], certificate, -1)
    if kind == "share":
        return len(more) == 2 and _shows_share(row, slips, more[0], more[1], certificate)
    return False


def _shows_comes(row, slips, urns):
    """Whether this is a lot of urns of so many slips that has the row."""
    if slips < row.draws:
        return False
    try:
        check_urns(urns, slips)
    except InvalidUrns:
        return False
    # A row is told by its all-yes chances.
    return all([_all_yes(urns, slips, draws) == all_yes(row, draws) for draws in range(1, row.draws + 1)])


def _shows_misses(row, slips, points):
    if slips < row.draws:
        return _is_tuple(points, 0)
    return _are_even(points, row.draws, slips) and mean_on(row_sums(row.counts, slips), points, slips) < 0


def _shows_greatest(row, slips, pair):
    if not _is_tuple(pair, 2):
        return False
    return _shows_comes(row, slips, pair[0]) and _shows_misses(row, slips + 1, pair[1])


def _shows_end(row, slips, chance, pair, sign):
    """Whether the chance is the least next one, or, for the sign -1, the greatest."""
    many = row.draws + 1
    if slips < many or not is_fraction(chance) or not _is_tuple(pair, 2):
        return False
    urns, points = pair
    if not _shows_comes(row, slips, urns) or not _are_points(points, many, slips):
        return False
    if not _keeps_sign(points, slips, sign) or not all([yes in points for yes, _ in urns]):
        return False
    return _all_yes(urns, slips, many) == chance


def _shows_share(row, slips, yes, share, pair):
    """Whether the share is the greatest one of the urn with so many yes slips."""
    if not is_whole(yes) or yes < 0 or yes > slips or not is_fraction(share) or not _is_tuple(pair, 2):
        return False
    urns, points = pair
    if not _shows_comes(row, slips, urns) or not _are_even(points, row.draws, slips) or yes in points:
        return False
    if [part for at, part in urns if at == yes] != ([] if share == (0, 1) else [share]):
        return False
    # The mean is told by the sums, which are multiplied by the first one. The
    # polynomial may be turned or not: that turns both sides.
    sums = row_sums(row.counts, slips)
    return times(sums, points)[0] * share[1] == share[0] * _product(points, yes) * sums[0]


def _are_points(value, many, slips):
    """Whether this is a tuple of so many ascending integers from 0 to `slips`."""
    if not _is_tuple(value, many):
        return False
    least = 0
    for at in value:
        if not is_whole(at) or at < least or at > slips:
            return False
        least = at + 1
    return True


def _are_even(value, many, slips):
    """Whether this is a tuple of so many integers, at least one, that is even for the slips."""
    if not _are_points(value, many, slips) or many > slips:
        return False
    first = 1 if value[0] == 0 else 0
    last = many - 1 if value[-1] == slips else many
    return any([_are_pairs(value[start:end]) for start in (0, first) for end in (last, many)])


def _are_pairs(points):
    """Whether these ascending integers can be parted into pairs of neighbours."""
    return len(points) % 2 == 0 and all([one + 1 == two for one, two in zip(points[::2], points[1::2])])


def _keeps_sign(points, slips, sign):
    """Whether the product of all M - a, multiplied by the sign, is nowhere below 0 at 0 to `slips`."""
    # It keeps its sign from one point to the next: one place between them tells it.
    ends = [-1, *points, slips + 1]
    return all([
        sign * _product(points, one + 1) >= 0
        for one, two in zip(ends, ends[1:])
        if two - one > 1
    ])


def _product(points, at):
    """The product of all M - a, a in the points, at this M."""
    found = 1
    for point in points:
        found = found * (at - point)
    return found


def _all_yes(urns, slips, draws):
    """The chance that so many draws from a lot of urns are all yes."""
    bottom = 1
    for _, share in urns:
        bottom = lcm(bottom, share[1])
    top = sum([comb(yes, draws) * share[0] * (bottom // share[1]) for yes, share in urns])
    return lowest(top, bottom * comb(slips, draws))
