"""Long logs of changes of a library, refused ones and trials among them, held
against a plain library of the test's own."""

import unittest

from drawnmore.errors import (
    Broken, InUse, InvalidIndex, InvalidName, InvalidWish, NothingToUndo, NotRow, UnknownName,
)
from drawnmore.libraries import Library
from drawnmore.mends import holds
from drawnmore.rows import Row
from tests.helper import MOST, Case, picker

NAMES = ("a", "b", "c9", "abcdefgh", "A", "abcdefghi", "", None, 1, ["a"])
ROWS = [Row(counts) for counts in (
    (1, 4, 1), (1, 2, 1), (0, 1, 0), (1, 1), (0, 1), (1, 2, 3, 4), (1, 3, 3, 1), (1, 5, 10, 10, 5, 1), (1, 1, 1), (4, 7, 4),
)]
WISHES = (
    ("comes", 2), ("comes", 4), ("comes", MOST), ("comes", 1), ("misses", 5), ("misses", 1), ("misses", 10 ** 40), ("always",),
    ("likely", 1, (1, 2)), ("likely", 0, (1, 9)), ("likely", 6, (0, 1)), ("likely", 2, (1, 6)),
)
BAD = (None, (), ("comes", 0), ["always"], ("likely", 1, (2, 4)), Row((1, 1)), "a", True)


class Stop(Exception):
    """What a trial is ended with."""


class PlainLibrary:
    """Rows and wishes, and all it had before each change; nothing of it is changed in place."""

    def __init__(self):
        self.rows, self.wishes, self.past = {}, [], []

    def all(self):
        return (self.rows, self.wishes, self.past)

    def change(self):
        self.past = [*self.past, (self.rows, self.wishes)]

    def known(self, name):
        return name.__class__ is str and name in self.rows

    def broken(self, rows, wishes):
        """The index of the first wish that does not hold, None if all do."""
        for index, (name, wish) in enumerate(wishes):
            if not holds(rows[name], wish):
                return index
        return None

    def put(self, name, row):
        """None, or the error that is due with its attribute; likewise the others."""
        if name.__class__ is not str or not 1 <= len(name) <= 8 or not name.islower() or not name.isalnum():
            return (InvalidName, "given", name)
        if row.__class__ is not Row:
            return (NotRow, "given", row)
        rows = {**self.rows, name: row}
        index = self.broken(rows, self.wishes)
        if index is not None:
            return (Broken, "index", index)
        self.change()
        self.rows = rows
        return None

    def remove(self, name):
        if not self.known(name):
            return (UnknownName, "given", name)
        for index, (one, _) in enumerate(self.wishes):
            if one == name:
                return (InUse, "index", index)
        self.change()
        self.rows = {one: row for one, row in self.rows.items() if one != name}
        return None

    def wish(self, name, wish):
        if not self.known(name):
            return (UnknownName, "given", name)
        if wish not in WISHES:
            return (InvalidWish, "given", wish)
        index = self.broken(self.rows, [*self.wishes, (name, wish)])
        if index is not None:
            return (Broken, "index", index)
        self.change()
        self.wishes = [*self.wishes, (name, wish)]
        return None

    def lift(self, index):
        if index.__class__ is not int or not 0 <= index < len(self.wishes):
            return (InvalidIndex, "given", index)
        self.change()
        self.wishes = self.wishes[:index] + self.wishes[index + 1:]
        return None

    def undo(self):
        if not self.past:
            return (NothingToUndo, None, None)
        self.rows, self.wishes = self.past[-1]
        self.past = self.past[:-1]
        return None


class Logs(Case):
    def assert_like(self, library, own):
        """The library tells what the plain one has."""
        self.assertEqual(library.names, tuple(sorted(own.rows)))
        self.assertEqual(library.wishes, tuple(own.wishes))
        self.assertEqual([library.changes, len(library)], [len(own.past), len(own.rows)])
        self.assertIs(bool(library), True)
        for name, row in own.rows.items():
            self.assertIs(library[name], row)
        for name in NAMES:
            self.assertIs(name in library, own.known(name))
        # All wishes hold after each change.
        self.assertTrue(all(holds(library[name], wish) for name, wish in library.wishes))

    def step(self, pick):
        """A change that may be refused, as a word and its arguments."""
        name = NAMES[pick(len(NAMES)) % (1 + pick(len(NAMES)))]
        word = ("put", "put", "put", "remove", "wish", "wish", "lift", "undo")[pick(8)]
        bad = BAD[pick(len(BAD))]
        return {
            "put": ("put", name, ROWS[pick(len(ROWS))] if pick(6) else bad),
            "remove": ("remove", name),
            "wish": ("wish", name, WISHES[pick(len(WISHES))] if pick(6) else bad),
            "lift": ("lift", pick(6) if pick(6) else (-1, True, None, "0", 10 ** 40, (0,))[pick(6)]),
            "undo": ("undo",),
        }[word]

    def do(self, library, own, step):
        """The change is made by both, or refused with the error that is due."""
        word, *arguments = step
        due = getattr(own, word)(*arguments)
        if word == "put":
            def call():
                library[arguments[0]] = arguments[1]
        else:
            def call():
                self.assertIsNone(getattr(library, word)(*arguments))
        if due is None:
            call()
        else:
            error, name, value = due
            self.assert_raises(error, name and (name, value), call)
        self.seen[due and due[0].__name__] = self.seen.get(due and due[0].__name__, 0) + 1

    def lead(self, library, own, trials, pick, depth):
        """Many changes, some of them within trials."""
        for _ in range(12):
            if depth > 0 and pick(5) == 0:
                self.lead_within(library, own, trials, pick, depth - 1)
            else:
                self.do(library, own, self.step(pick))
            self.assert_like(library, own)

    def lead_within(self, library, own, trials, pick, depth):
        before, fails = own.all(), pick(2) == 1
        error = Stop()

        def action(given):
            self.assertIs(given, library)
            self.lead(given, own, trials, pick, depth)
            if fails:
                raise error
            return error

        try:
            how = pick(3)
            if how == 0:
                self.assertIs(library.tried(action), error)
            else:
                # One of two objects, also within itself, or a new one.
                with (trials[pick(2)] if how == 1 else library.trial()) as given:
                    action(given)
            self.assertFalse(fails)
        except Stop as raised:
            self.assertTrue(fails and raised is error)
            own.rows, own.wishes, own.past = before

    def assert_all_taken_back(self, library, own):
        while own.past:
            own.undo()
            self.assertIsNone(library.undo())
            self.assert_like(library, own)
        self.assertEqual([library.names, library.wishes, library.changes], [(), (), 0])
        self.assert_raises(NothingToUndo, None, library.undo)

    def setUp(self):
        self.seen = {}

    def test_long_logs(self):
        for seed in range(8):
            pick = picker(700 + seed)
            library, own = Library(), PlainLibrary()
            for _ in range(300):
                self.do(library, own, self.step(pick))
                self.assert_like(library, own)
            self.assert_all_taken_back(library, own)
        for name in (None, "InvalidName", "NotRow", "Broken", "UnknownName", "InUse", "InvalidWish", "InvalidIndex"):
            self.assertGreater(self.seen[name], 20)
        self.assertGreater(self.seen[None], 600)

    def test_without_taking_back(self):
        """Only changes, many of them, and then all of them taken back."""
        pick = picker(710)
        library, own = Library(), PlainLibrary()
        while len(own.past) < 400:
            step = self.step(pick)
            if step[0] != "undo":
                self.do(library, own, step)
        self.assert_like(library, own)
        self.assert_all_taken_back(library, own)

    def test_with_trials(self):
        for seed in range(25):
            pick = picker(720 + seed)
            library, own = Library(), PlainLibrary()
            trials = (library.trial(), library.trial())
            for _ in range(3):
                self.lead(library, own, trials, pick, 4)
            self.assert_all_taken_back(library, own)
        self.assertGreater(self.seen[None], 1000)

    def test_two_side_by_side(self):
        pick = picker(760)
        pairs = [(Library(), PlainLibrary()) for _ in range(2)]
        for _ in range(500):
            library, own = pairs[pick(2)]
            self.do(library, own, self.step(pick))
            for library, own in pairs:
                self.assert_like(library, own)
        for library, own in pairs:
            self.assert_all_taken_back(library, own)

    def test_one_within_a_trial_of_the_other(self):
        pick = picker(770)
        pairs = [(Library(), PlainLibrary()) for _ in range(2)]
        for _ in range(60):
            (one, first), (two, second) = pairs if pick(2) else pairs[::-1]
            before = first.all()
            fails = pick(2) == 1
            try:
                with one.trial():
                    for _ in range(6):
                        self.do(one, first, self.step(pick))
                        self.do(two, second, self.step(pick))
                    if fails:
                        raise Stop()
            except Stop:
                first.rows, first.wishes, first.past = before
            for library, own in pairs:
                self.assert_like(library, own)
        for library, own in pairs:
            self.assert_all_taken_back(library, own)


if __name__ == "__main__":
    unittest.main()
