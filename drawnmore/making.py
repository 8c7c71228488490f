"""Rows of urns and coins, mixtures, and rows that are made of other rows."""

from math import comb, lcm

from drawnmore.errors import InvalidChance, InvalidRows, InvalidUrns, NoChance
from drawnmore.figures import add_up_to_one, check_number, is_chance, is_fraction, is_whole, lowest, powers
from drawnmore.limits import MOST_DRAWS, MOST_ROWS, MOST_SLIPS
from drawnmore.rows import Row, check_row


def urn_row(slips, yes, draws):
    """The row of an urn with so many slips, of which so many say yes."""
    check_number(slips, 1, MOST_SLIPS)
    check_number(yes, 0, slips)
    check_number(draws, 1, min(MOST_DRAWS, slips))
    return Row(_urn_counts(slips, yes, draws))


def urns_row(slips, urns, draws):
    """The row of a lot of urns, pairs of yes slips and a share."""
    check_number(slips, 1, MOST_SLIPS)
    check_urns(urns, slips)
    check_number(draws, 1, min(MOST_DRAWS, slips))
    tables = [_urn_counts(slips, yes, draws) for yes, _ in urns]
    return _blended(tables, [share for _, share in urns])


def coin_row(chance, draws):
    """The row of throws of a coin with this chance of yes."""
    if not is_chance(chance):
        raise InvalidChance(chance)
    check_number(draws, 1, MOST_DRAWS)
    top, bottom = chance
    yes = powers(top, draws)
    no = powers(bottom - top, draws)
    return Row(tuple([comb(draws, k) * yes[k] * no[draws - k] for k in range(draws + 1)]))


def mixed(rows, shares):
    """The row of a draw from these rows, chosen by these shares."""
    _check_rows(rows)
    if not _are_shares(shares, len(rows)):
        raise InvalidChance(shares)
    return _blended([row.counts for row in rows], shares)


def all_yes(row, yes):
    """The chance that so many told draws are all yes."""
    check_row(row)
    check_number(yes, 0, row.draws)
    hits = [count * comb(k, yes) for k, count in enumerate(row.counts)]
    return lowest(sum(hits), sum(row.counts) * comb(row.draws, yes))


def swapped(row):
    """The row with yes and no exchanged."""
    check_row(row)
    return Row(row.counts[::-1])


def fewer(row, draws):
    """The row of so many of the row's draws."""
    check_row(row)
    check_number(draws, 1, row.draws)
    # A row comes of as many slips as it has draws: its rates are the urns' shares.
    tables = [_urn_counts(row.draws, yes, draws) for yes in range(row.draws + 1)]
    return _blended(tables, row.rates)


def behind(row, draws, yes):
    """The row of the other draws, if of so many told ones `yes` were yes."""
    check_row(row)
    check_number(draws, 1, row.draws - 1)
    check_number(yes, 0, draws)
    rest = row.draws - draws
    orders = 1
    for k in range(row.draws + 1):
        orders = lcm(orders, comb(row.draws, k))
    # The count at an index is shared by all orders with so many yes.
    counts = [
        row.counts[yes + k] * (orders // comb(row.draws, yes + k)) * comb(rest, k)
        for k in range(rest + 1)
    ]
    if max(counts) == 0:
        raise NoChance()
    return Row(tuple(counts))


def check_urns(urns, slips):
    """Raise InvalidUrns for all but lots of urns of so many slips."""
    if not isinstance(urns, tuple):
        raise InvalidUrns(None)
    least = 0
    for index, urn in enumerate(urns):
        if not _is_urn(urn, least, slips):
            raise InvalidUrns(index)
        least = urn[0] + 1
    if not add_up_to_one([share for _, share in urns]):
        raise InvalidUrns(None)


def _urn_counts(slips, yes, draws):
    """In how many ways none, one, two .. of the draws are yes."""
    return tuple([comb(yes, k) * comb(slips - yes, draws - k) for k in range(draws + 1)])


def _blended(tables, shares):
    """The row in which each table of counts has its share."""
    bottom = 1
    for table, share in zip(tables, shares):
        bottom = lcm(bottom, sum(table) * share[1])
    weights = [
        top * (bottom // (sum(table) * under))
        for table, (top, under) in zip(tables, shares)
    ]
    many = len(tables[0])
    return Row(tuple([
        sum([weight * table[k] for weight, table in zip(weights, tables)])
        for k in range(many)
    ]))


def _is_urn(value, least, slips):
    """Whether this is a pair of yes slips, from `least` on, and a share."""
    if not isinstance(value, tuple) or len(value) != 2:
        return False
    yes, share = value
    if not is_whole(yes) or yes < least or yes > slips:
        return False
    return is_fraction(share) and share[0] > 0


def _check_rows(rows):
    if not isinstance(rows, tuple) or len(rows) == 0:
        raise InvalidRows(None)
    for index, row in enumerate(rows):
        if not isinstance(row, Row) or row.draws != rows[0].draws or index >= MOST_ROWS:
            raise InvalidRows(index)


def _are_shares(value, many):
    """Whether this is a tuple of so many shares with the sum 1."""
    if not isinstance(value, tuple) or len(value) != many:
        return False
    return all([is_chance(share) for share in value]) and add_up_to_one(value)
