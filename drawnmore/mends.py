"""Wishes for rows, and least sets of changes with which they hold."""

from drawnmore.errors import InvalidChanges, InvalidText, InvalidWish, InvalidWishes
from drawnmore.extending import always, choices, does_come
from drawnmore.figures import is_fraction, is_whole
from drawnmore.limits import MOST_CHANGES
from drawnmore.rows import check_row, is_change


def holds(row, wish):
    """Whether the wish holds for the row."""
    check_row(row)
    if not is_wish(wish):
        raise InvalidWish(wish)
    return does_hold(row, wish)


def mends(row, wishes, changes):
    """All least sets of the changes with which the wishes hold, as tuples of indexes."""
    check_row(row)
    _check_wishes(wishes)
    _check_changes(row, changes)
    found = []
    for many in range(len(changes) + 1):
        for some in choices(len(changes), many):
            if not _has_part(some, found) and _mend(row, wishes, [changes[index] for index in some]):
                found.append(some)
    return tuple(found)


def is_wish(value):
    """Whether this is a wish."""
    if not isinstance(value, tuple) or len(value) == 0 or not isinstance(value[0], str):
        return False
    kind, *more = value
    if kind == "always":
        return len(more) == 0
    if kind in ("comes", "misses"):
        return len(more) == 1 and is_whole(more[0]) and more[0] > 0
    if kind == "likely":
        return len(more) == 2 and is_whole(more[0]) and more[0] >= 0 and is_fraction(more[1])
    return False


def does_hold(row, wish):
    """Whether a wish that is one holds for the row."""
    kind, *more = wish
    if kind == "always":
        return always(row)
    if kind == "comes":
        return does_come(row, more[0])
    if kind == "misses":
        return not does_come(row, more[0])
    yes, (top, bottom) = more
    count = row.counts[yes] if yes <= row.draws else 0
    return count * bottom >= top * sum(row.counts)


def _check_wishes(wishes):
    if not isinstance(wishes, tuple):
        raise InvalidWishes(None)
    for index, wish in enumerate(wishes):
        if not is_wish(wish):
            raise InvalidWishes(index)


def _check_changes(row, changes):
    if not isinstance(changes, tuple):
        raise InvalidChanges(None)
    for index, change in enumerate(changes):
        # The text has a line for the draws, and one for each count.
        if index >= MOST_CHANGES or not is_change(change, row.draws + 2):
            raise InvalidChanges(index)


def _has_part(some, found):
    """Whether one of the sets that were found is a part of this one."""
    return any([all([index in some for index in part]) for part in found])


def _mend(row, wishes, changes):
    """Whether the wishes hold for the row with these changes, all of which are made."""
    try:
        changed = row.changed(tuple(changes))
    except (InvalidChanges, InvalidText):
        # Two of the same line, or no row.
        return False
    return all([does_hold(changed, wish) for wish in wishes])
