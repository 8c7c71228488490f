"""Rows: how often none, one, two .. of a few draws are yes."""

from math import gcd

from drawnmore.errors import InvalidChanges, InvalidCounts, InvalidText, NotRow
from drawnmore.figures import is_decimal, is_whole, lowest, read_decimal, write_decimal
from drawnmore.limits import MOST_DRAWS


class Row:
    """The chances of each number of yes among 1 to 5 draws; never changes."""

    def __init__(self, counts):
        _check_counts(counts)
        common = 0
        for count in counts:
            common = gcd(common, count)
        if common == 0:
            raise InvalidCounts(None)
        self._counts = tuple([count // common for count in counts])

    @classmethod
    def read(cls, text):
        """The row with this text, whose counts need not be plain."""
        counts = _told_counts(text)
        if counts is None:
            raise InvalidText(text)
        return cls(counts)

    @property
    def counts(self):
        """The counts without a common divisor above 1."""
        return self._counts

    @property
    def rates(self):
        """The chance of each number of yes, as fractions."""
        total = sum(self._counts)
        return tuple([lowest(count, total) for count in self._counts])

    @property
    def draws(self):
        """How many draws the row has."""
        return len(self._counts) - 1

    @property
    def text(self):
        """The row as a string that can be read."""
        lines = [f"yes {yes} {write_decimal(count)}" for yes, count in enumerate(self._counts)]
        return "\n".join([f"draws {self.draws}", *lines])

    def changed(self, changes):
        """The row with these changes, all of which are made at once."""
        lines = self.text.split("\n")
        placed = _placed(changes, len(lines))
        after = [placed.get(at, line) for at, line in enumerate(lines)]
        return Row.read("\n".join([line for line in after if line != ""]))

    def __eq__(self, other):
        return isinstance(other, Row) and self._counts == other._counts

    def __len__(self):
        return len(self._counts[1:])

    def __str__(self):
        return str(self.text)

    def __repr__(self):
        return f"Row of {self.draws} draws"


def check_row(row):
    """Raise NotRow for all but rows."""
    if not isinstance(row, Row):
        raise NotRow(row)


def is_change(value, lines):
    """Whether this is a change of a row whose text has so many lines."""
    if not isinstance(value, tuple) or len(value) != 2:
        return False
    at, new = value
    if not is_whole(at) or at < 0 or at >= lines:
        return False
    return isinstance(new, str) and "\n" not in new


def _check_counts(counts):
    if not isinstance(counts, tuple) or len(counts) < 2:
        raise InvalidCounts(None)
    for yes, count in enumerate(counts):
        if not is_whole(count) or count < 0 or yes > MOST_DRAWS:
            raise InvalidCounts(yes)


def _told_counts(text):
    """The counts that a text tells, None if it is no text of a row."""
    if not isinstance(text, str):
        return None
    lines = text.split("\n")
    draws = len(lines) - 2
    if draws < 1 or draws > MOST_DRAWS or lines[0] != f"draws {draws}":
        return None
    counts = []
    for yes, line in enumerate(lines[1:]):
        start = f"yes {yes} "
        word = line[len(start):]
        if not line.startswith(start) or not is_decimal(word):
            return None
        counts.append(read_decimal(word))
    return tuple(counts) if max(counts) > 0 else None


def _placed(changes, lines):
    """The new line for each line that is changed."""
    if not isinstance(changes, tuple):
        raise InvalidChanges(None)
    placed = {}
    for index, change in enumerate(changes):
        if not is_change(change, lines) or change[0] in placed:
            raise InvalidChanges(index)
        placed[change[0]] = change[1]
    return placed
