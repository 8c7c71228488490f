"""Claims about rows, with certificates that the checker accepts."""

from drawnmore.extending import (
    against, free_ends, greatest, highest_points, lot_with, lowest_points, row_sums, shares_on, tuple_against, urns,
)
from drawnmore.further import next_chances, share_and_points


def certify_comes(row, slips):
    """That the row comes of so many slips, or that it does not."""
    found = urns(row, slips)
    if found is None:
        return ("misses", row.text, slips), against(row, slips)
    return ("comes", row.text, slips), found


def certify_greatest(row):
    """That this is the greatest number of slips of which the row comes, or that it comes of all."""
    slips = greatest(row)
    if slips is None:
        return ("always", row.text), ()
    return ("greatest", row.text, slips), (lot_with(row, slips), tuple_against(row, slips + 1))


def certify_next(row, slips):
    """That these are the least and the greatest next chance."""
    least, most = next_chances(row, slips)
    sums = row_sums(row.counts, slips)
    low = lowest_points(sums, row.draws + 1, slips)
    high = highest_points(sums, row.draws + 1, slips)
    return (
        (("least", row.text, slips, least), (shares_on(sums, low), tuple(low))),
        (("most", row.text, slips, most), (shares_on(sums, high), tuple(high))),
    )


def certify_share(row, slips, yes):
    """That this is the greatest share of the urn with so many yes slips."""
    share, points = share_and_points(row, slips, yes)
    while len(points) < row.draws:
        first, last = free_ends(points, slips)
        points = sorted([*points, last if first == yes else first])
    lot = shares_on(row_sums(row.counts, slips), sorted([*points, yes]))
    return ("share", row.text, slips, yes, share), (lot, tuple(points))
