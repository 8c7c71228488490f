"""Watches: the draws of a row, noted one by one."""

from drawnmore.errors import InvalidChance, NoChance, NoMore, NothingToUndo
from drawnmore.making import all_yes, behind
from drawnmore.rows import check_row


class Watch:
    """Watches the draws of a row, one by one."""

    def __init__(self, row):
        check_row(row)
        self._row = row
        self._outcomes = ()

    @property
    def row(self):
        """The row as it was passed."""
        return self._row

    @property
    def noted(self):
        """The outcomes that were noted, True for yes and False for no."""
        return self._outcomes

    @property
    def rest(self):
        """The row of the draws that are left, None if there are none."""
        if len(self._outcomes) == 0:
            return self._row
        if len(self._outcomes) == self._row.draws:
            return None
        return behind(self._row, len(self._outcomes), self._outcomes.count(True))

    def note(self, outcome):
        """Note whether a draw was yes; the chance that it had."""
        if outcome is not True and outcome is not False:
            raise InvalidChance(outcome)
        rest = self.rest
        if rest is None:
            raise NoMore()
        top, bottom = all_yes(rest, 1)
        if outcome is False:
            top = bottom - top
        if top == 0:
            raise NoChance()
        self._outcomes = (*self._outcomes, outcome)
        return top, bottom

    def undo(self):
        """Take back the last noting that was not taken back."""
        if len(self._outcomes) == 0:
            raise NothingToUndo()
        self._outcomes = self._outcomes[:-1]

    def trial(self):
        """For a `with` statement, behind which the watch is as it was before."""
        return Trial(self)

    def tried(self, action):
        """Call a function with the watch within a trial; what it returns."""
        with self.trial() as watch:
            return action(watch)

    def __len__(self):
        return len(self._outcomes)

    def __bool__(self):
        return True


class Trial:
    """Takes a watch back, at the end of each statement, to where it was at its beginning."""

    def __init__(self, watch):
        self._watch = watch
        self._kept = None

    def __enter__(self):
        self._kept = Kept(self._watch.noted, self._kept)
        return self._watch

    def __exit__(self, kind, value, trace):
        watch = self._watch
        watch._outcomes = self._kept.outcomes
        self._kept = self._kept.before


class Kept:
    """What was noted when a statement began, and what is kept for those around it."""

    def __init__(self, outcomes, before):
        self.outcomes = outcomes
        self.before = before
