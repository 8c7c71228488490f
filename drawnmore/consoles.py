"""Consoles: lines that put rows under names and ask about them."""

from drawnmore.errors import InvalidCounts, InvalidNumber, NoChance, NoUrns
from drawnmore.extending import comes, greatest
from drawnmore.figures import is_decimal, is_name, read_decimal, write_decimal
from drawnmore.further import next_yes
from drawnmore.limits import MOST_SLIPS
from drawnmore.rows import Row

_NO_LINE = "no such line"

# How many numbers stand behind the name; the last one tells slips.
_NUMBERS = {"drop": 0, "counts": 0, "comes": 1, "greatest": 0, "next": 2}


class Console:
    """Answers lines; at first without rows."""

    def __init__(self):
        self._rows = {}
        # A name for each change, and its row before it, None if it had none.
        self._past = []

    @property
    def names(self):
        """The ascending tuple of the names of rows."""
        return tuple(sorted(self._rows))

    def do(self, line):
        """The answer to a line."""
        word, *more = line.split(" ")
        if word == "undo" and len(more) == 0:
            return self._undo()
        # A name has at least one sign, and so has what stands behind that of a row.
        if len(more) == 0 or more[0] == "":
            return _NO_LINE
        name, *told = more
        if word == "row":
            return self._put(name, told) if told not in ([], [""]) else _NO_LINE
        if not _are_numbers(word, told):
            return _NO_LINE
        if name not in self._rows:
            return "no such row"
        if word == "drop":
            return self._drop(name)
        return _answer(self._rows[name], word, [read_decimal(one) for one in told])

    def _put(self, name, told):
        if not is_name(name):
            return "no name"
        row = _told_row(told)
        if row is None:
            return "no row"
        self._keep(name)
        self._rows[name] = row
        return "put"

    def _drop(self, name):
        self._keep(name)
        del self._rows[name]
        return "dropped"

    def _undo(self):
        if len(self._past) == 0:
            return "nothing"
        name, row = self._past.pop()
        if row is None:
            del self._rows[name]
        else:
            self._rows[name] = row
        return "undone"

    def _keep(self, name):
        self._past.append((name, self._rows.get(name)))


def _told_row(words):
    """The row with these counts, None if they are none of a row."""
    if not all([is_decimal(word) for word in words]):
        return None
    try:
        return Row(tuple([read_decimal(word) for word in words]))
    except InvalidCounts:
        return None


def _are_numbers(word, told):
    """Whether a line of this word has these numbers behind the name."""
    if word not in _NUMBERS or len(told) != _NUMBERS[word]:
        return False
    if not all([is_decimal(one) for one in told]):
        return False
    return len(told) == 0 or 1 <= read_decimal(told[-1]) <= MOST_SLIPS


def _answer(row, word, numbers):
    """The answer to a line that asks about a row."""
    if word == "counts":
        return " ".join([write_decimal(count) for count in row.counts])
    if word == "comes":
        return "yes" if comes(row, numbers[0]) else "no"
    if word == "greatest":
        most = greatest(row)
        return "always" if most is None else write_decimal(most)
    yes, slips = numbers
    try:
        ends = next_yes(row, yes, slips)
    except (InvalidNumber, NoChance, NoUrns):
        return "none"
    return " ".join([f"{write_decimal(top)}/{write_decimal(bottom)}" for top, bottom in ends])
