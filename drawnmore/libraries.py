"""Libraries: rows under names, with wishes that hold after each change."""

from drawnmore.errors import Broken, InUse, InvalidIndex, InvalidName, InvalidWish, NothingToUndo, UnknownName
from drawnmore.figures import is_name, is_whole
from drawnmore.mends import does_hold, is_wish
from drawnmore.rows import check_row


class Library:
    """Rows under names, and a sequence of wishes for them."""

    def __init__(self):
        self._state = State({}, (), None)

    @property
    def names(self):
        """The ascending tuple of the names of rows."""
        return tuple(sorted(self._state.shelf))

    @property
    def wishes(self):
        """The pairs of a name and a wish, as they were passed."""
        return self._state.asked

    @property
    def changes(self):
        """How many changes can be taken back."""
        return self._state.many

    def remove(self, name):
        """Take the row of a name away, if there is no wish for it."""
        self._check_known(name)
        for index, (one, _) in enumerate(self._state.asked):
            if one == name:
                raise InUse(index)
        shelf = self._state.shelf
        self._change({one: shelf[one] for one in shelf if one != name}, self._state.asked)

    def wish(self, name, wish):
        """Make a wish for the row of a name, behind the other wishes."""
        self._check_known(name)
        if not is_wish(wish):
            raise InvalidWish(wish)
        state = self._state
        if not does_hold(state.shelf[name], wish):
            raise Broken(len(state.asked))
        self._change(state.shelf, (*state.asked, (name, wish)))

    def lift(self, index):
        """Take a wish away."""
        asked = self._state.asked
        if not is_whole(index) or index < 0 or index >= len(asked):
            raise InvalidIndex(index)
        self._change(self._state.shelf, asked[:index] + asked[index + 1:])

    def undo(self):
        """Take back the last change that was not taken back."""
        if self._state.before is None:
            raise NothingToUndo()
        self._state = self._state.before

    def trial(self):
        """For a `with` statement, behind which an exception leaves the library as it was before."""
        return LibraryTrial(self)

    def tried(self, action):
        """Call a function with the library within a trial; what it returns."""
        with self.trial() as library:
            return action(library)

    def __getitem__(self, at):
        self._check_known(at)
        return self._state.shelf[at]

    def __setitem__(self, at, worth):
        if not is_name(at):
            raise InvalidName(at)
        check_row(worth)
        state = self._state
        # The wishes for other names hold, as they did before.
        for index, (name, wish) in enumerate(state.asked):
            if name == at and not does_hold(worth, wish):
                raise Broken(index)
        self._change({**state.shelf, at: worth}, state.asked)

    def __contains__(self, x):
        return isinstance(x, str) and x in self._state.shelf

    def __iter__(self):
        raise TypeError("a library is not gone through; its names are")

    def __len__(self):
        return len(self._state.shelf)

    def __bool__(self):
        return True

    def _check_known(self, name):
        # What is no string may be no key at all.
        if not isinstance(name, str) or name not in self._state.shelf:
            raise UnknownName(name)

    def _change(self, shelf, asked):
        self._state = State(shelf, asked, self._state)


class State:
    """What a library has; never changes, so that a trial can bring it back as it was."""

    def __init__(self, shelf, asked, before):
        self.shelf = shelf
        self.asked = asked
        self.before = before
        self.many = 0 if before is None else before.many + 1


class LibraryTrial:
    """Brings a library back to where a statement began, if an exception ends it."""

    def __init__(self, library):
        self._library = library
        self._kept = None

    def __enter__(self):
        self._kept = KeptState(self._library._state, self._kept)
        return self._library

    def __exit__(self, kind, value, trace):
        library = self._library
        if kind is not None:
            library._state = self._kept.state
        self._kept = self._kept.before


class KeptState:
    """The state when a statement began, and what is kept for those around it."""

    def __init__(self, state, before):
        self.state = state
        self.before = before
