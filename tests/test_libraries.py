"""Library: rows, wishes, what is refused and in which order, taking back, trials."""

import unittest

from drawnmore.errors import (
    Broken, InUse, InvalidIndex, InvalidName, InvalidWish, NothingToUndo, NotPossible, NotRow, UnknownName,
)
from drawnmore.libraries import Library
from drawnmore.making import coin_row
from drawnmore.mends import holds
from drawnmore.rows import Row
from tests.helper import MOST, Case, no_fractions, no_integers, no_rows, nested, unusual

MOSTLY, EVENLY, UNLIKE, ONE = Row((1, 4, 1)), Row((1, 2, 1)), Row((0, 1, 0)), Row((1, 1))

NAMES = ("a", "z", "ab", "a0", "z9", "abcdefgh", "a1234567", "zzzzzzzz", "names", "undo", "a0b1c2d3")
NO_NAMES = [
    *unusual(), 0, 1, -1, 10 ** 999, "", " ", "A", "aB", "1", "0a", "abcdefghi", "a12345678", "_", "a_", "a-b", "a b", "a ",
    " a", "\n", "a\n", "\na", "a\nb", "a" * 4000, "~", "a!", "{", "`", "@", "[", "a/", "a:", "Z", (), ("a",), nested(10),
    nested(9, "a"), ["a"], MOSTLY, b"a",
]
NO_WISHES = [
    *unusual(), 0, 1, 10 ** 999, "", "always", (), ("alway",), ("always", 1), ["always"], ("comes",), ("comes", 0),
    ("comes", -1), ("comes", True), ("comes", "4"), ("comes", 4, 4), ("misses", 0), ("misses", None), ("likely", 1),
    ("likely", -1, (1, 2)), ("likely", True, (1, 2)), ("likely", 1, (2, 4)), ("likely", 1, [1, 2]), nested(10), MOSTLY,
    *[("comes", value) for value in no_integers()], *[("likely", 0, value) for value in no_fractions()],
]


class Stop(Exception):
    """Something that a block may raise."""


def state(library):
    """All that a library tells."""
    return ([(name, library[name].counts) for name in library.names], library.wishes, library.changes, len(library))


def led(*steps):
    """A new library with these changes."""
    library = Library()
    for step in steps:
        step(library)
    return library


def putting(name, row):
    def step(library):
        library[name] = row

    return step


def wishing(name, *wish):
    return lambda library: library.wish(name, wish)


def with_wishes():
    """Two rows, and three wishes for the first one."""
    return led(
        putting("a", MOSTLY), putting("b", EVENLY), wishing("a", "comes", 4), wishing("a", "misses", 5),
        wishing("a", "likely", 1, (2, 3)),
    )


class LibraryCase(Case):
    def put(self, library, name, row):
        library[name] = row

    def assert_refused(self, error, told, library, call, *args, **more):
        """The call raises this error and changes nothing."""
        before, rows = state(library), [library[name] for name in library.names]
        self.assert_raises(error, told, call, *args, **more)
        self.assertEqual(state(library), before)
        self.assertTrue(all(library[name] is row for name, row in zip(library.names, rows)))

    def assert_all_taken_back(self, library, many):
        """There are so many changes, which are taken back one by one."""
        for count in range(many, 0, -1):
            self.assertEqual(library.changes, count)
            self.assertIsNone(library.undo())
        self.assertEqual([library.changes, library.names, library.wishes, len(library)], [0, (), (), 0])
        self.assert_raises(NothingToUndo, None, library.undo)


class Rows(LibraryCase):
    def test_at_first(self):
        library = Library()
        self.assertEqual([library.names, library.wishes, library.changes, len(library)], [(), (), 0, 0])
        self.assertEqual([library.names.__class__, library.wishes.__class__], [tuple, tuple])
        self.assertIs(bool(library), True)
        self.assert_refused(NothingToUndo, None, library, library.undo)
        self.assert_refused(UnknownName, ("given", "a"), library, lambda: library["a"])

    def test_put(self):
        library = Library()
        for many, name in enumerate(NAMES):
            library[name] = MOSTLY
            self.assertIs(library[name], MOSTLY)
            self.assertEqual([len(library), library.changes, name in library], [many + 1, many + 1, True])
        self.assertEqual(library.names, tuple(sorted(NAMES)))
        self.assert_all_taken_back(library, len(NAMES))

    def test_in_the_place_of_another(self):
        library = led(putting("a", MOSTLY), putting("b", ONE), putting("a", EVENLY))
        self.assertIs(library["a"], EVENLY)
        self.assertEqual([library.names, library.changes, len(library)], [("a", "b"), 3, 2])
        library.undo()
        self.assertIs(library["a"], MOSTLY)
        self.assertEqual(library.names, ("a", "b"))

    def test_each_change_counts(self):
        library = led(putting("a", MOSTLY), putting("a", MOSTLY), putting("a", Row((2, 8, 2))))
        self.assertEqual([library.changes, library["a"] == MOSTLY], [3, True])
        self.assert_all_taken_back(library, 3)

    def test_names_are_told_ascending(self):
        library = led(*[putting(name, ONE) for name in ("b", "a", "c1", "c", "aa", "z0", "a9", "a0")])
        self.assertEqual(library.names, ("a", "a0", "a9", "aa", "b", "c", "c1", "z0"))

    def test_rows_of_all_draws(self):
        library = Library()
        for draws in range(1, 6):
            for row in (coin_row((1, 3), draws), Row((10 ** 40, *[10 ** 40 + 1] * draws))):
                library["a"] = row
                self.assertIs(library["a"], row)

    def test_no_names(self):
        for library in (Library(), with_wishes()):
            for name in NO_NAMES:
                self.assert_refused(InvalidName, ("given", name), library, self.put, library, name, MOSTLY)
                # The name goes ahead of the row.
                self.assert_refused(InvalidName, ("given", name), library, self.put, library, name, None)

    def test_no_rows(self):
        for library in (Library(), with_wishes()):
            for row in no_rows():
                for name in ("a", "c"):
                    self.assert_refused(NotRow, ("given", row), library, self.put, library, name, row)

    def test_no_such_name(self):
        for library in (Library(), with_wishes()):
            for name in [*NO_NAMES, "c", "aa", "abcdefgh", slice(0, 1), slice(None)]:
                self.assert_refused(UnknownName, ("given", name), library, lambda: library[name])
                self.assert_refused(UnknownName, ("given", name), library, library.remove, name)
                self.assert_refused(UnknownName, ("given", name), library, library.remove, name=name)

    def test_in(self):
        library = with_wishes()
        self.assertTrue("a" in library and "b" in library)
        for value in [*NO_NAMES, "c", "aa", "ab", UNLIKE, MOSTLY, library, 10 ** 40, ("a", MOSTLY)]:
            self.assertIs(value in library, False)
            self.assertIs(value not in library, True)
            self.assertIs(value in Library(), False)

    def test_remove(self):
        library = led(putting("a", MOSTLY), putting("b", ONE))
        self.assertIsNone(library.remove("a"))
        self.assertEqual([library.names, library.changes, "a" in library, len(library)], [("b",), 3, False, 1])
        self.assert_refused(UnknownName, ("given", "a"), library, library.remove, "a")
        self.assertIsNone(library.remove(name="b"))
        self.assertEqual([library.names, library.changes, bool(library)], [(), 4, True])
        library.undo()
        library.undo()
        self.assertIs(library["a"], MOSTLY)
        self.assert_all_taken_back(library, 2)

    def test_in_use(self):
        library = with_wishes()
        self.assert_refused(InUse, ("index", 0), library, library.remove, "a")
        self.assert_refused(InUse, ("index", 0), library, library.remove, name="a")
        library.remove("b")
        library["b"] = EVENLY
        library.wish("b", ("always",))
        self.assert_refused(InUse, ("index", 3), library, library.remove, "b")
        library.lift(1)
        self.assert_refused(InUse, ("index", 2), library, library.remove, "b")
        library.lift(0)
        library.lift(0)
        self.assertIsNone(library.remove("a"))
        self.assert_refused(InUse, ("index", 0), library, library.remove, "b")
        library.lift(0)
        self.assertIsNone(library.remove("b"))


class Wishes(LibraryCase):
    def test_wish(self):
        library = led(putting("a", MOSTLY), putting("b", EVENLY))
        wishes = (
            ("a", ("comes", 4)), ("b", ("always",)), ("a", ("misses", MOST + 1)), ("a", ("likely", 1, (2, 3))),
            ("b", ("likely", 9, (-1, 2))), ("b", ("comes", 10 ** 40)), ("a", ("comes", 4)), ("a", ("misses", 1)),
        )
        for many, (name, wish) in enumerate(wishes):
            self.assertIsNone(library.wish(name, wish) if many % 2 else library.wish(name=name, wish=wish))
            self.assertEqual([library.wishes, library.changes], [wishes[:many + 1], many + 3])
            self.assertIs(library.wishes[-1][1], wish)
        self.assertTrue(all(pair.__class__ is tuple for pair in library.wishes))
        self.assert_all_taken_back(library, 10)

    def test_wishes_of_no_names(self):
        for library in (Library(), with_wishes()):
            for name in [*NO_NAMES, "c", "aa"]:
                self.assert_refused(UnknownName, ("given", name), library, library.wish, name, ("comes", 1))
                # The name goes ahead of the wish, whatever it is.
                self.assert_refused(UnknownName, ("given", name), library, library.wish, name, None)
                self.assert_refused(UnknownName, ("given", name), library, library.wish, wish=name, name=name)

    def test_no_wishes(self):
        library = with_wishes()
        for wish in NO_WISHES:
            for name in ("a", "b"):
                self.assert_refused(InvalidWish, ("given", wish), library, library.wish, name, wish)
                self.assert_refused(InvalidWish, ("given", wish), library, library.wish, name=name, wish=wish)

    def test_wishes_that_do_not_hold(self):
        library = with_wishes()
        for wish in (("comes", 5), ("misses", 4), ("always",), ("likely", 1, (3, 4)), ("likely", 7, (1, 9)), ("comes", 1)):
            self.assert_refused(Broken, ("index", 3), library, library.wish, "a", wish)
        self.assert_refused(Broken, ("index", 3), library, library.wish, "b", ("misses", 10 ** 40))
        library.lift(0)
        self.assert_refused(Broken, ("index", 2), library, library.wish, "a", ("comes", 5))
        library = led(putting("a", ONE))
        self.assert_refused(Broken, ("index", 0), library, library.wish, "a", ("misses", 1))

    def test_lift(self):
        library = with_wishes()
        library.wish("b", ("always",))
        told = library.wishes
        self.assertIsNone(library.lift(1))
        self.assertEqual(library.wishes, (told[0], told[2], told[3]))
        self.assertIsNone(library.lift(index=2))
        self.assertEqual([library.wishes, library.changes], [(told[0], told[2]), 8])
        library.undo()
        library.undo()
        self.assertEqual([library.wishes, library.changes], [told, 6])
        for many in range(4, 0, -1):
            self.assertEqual(len(library.wishes), many)
            library.lift(0)
        self.assert_refused(InvalidIndex, ("given", 0), library, library.lift, 0)
        self.assert_all_taken_back(library, 10)

    def test_no_indexes(self):
        for library, many in ((Library(), 0), (with_wishes(), 3)):
            for index in [*no_integers(), many, many + 1, -1, -many, MOST, -MOST, 10 ** 999]:
                if index.__class__ is int and 0 <= index < many:
                    continue
                self.assert_refused(InvalidIndex, ("given", index), library, library.lift, index)
                self.assert_refused(InvalidIndex, ("given", index), library, library.lift, index=index)

    def test_broken_by_a_row(self):
        library = with_wishes()
        # Those that come of 5 slips break the second wish, if not the first one.
        self.assert_refused(Broken, ("index", 1), library, self.put, library, "a", EVENLY)
        self.assert_refused(Broken, ("index", 0), library, self.put, library, "a", UNLIKE)
        self.assert_refused(Broken, ("index", 1), library, self.put, library, "a", ONE)
        self.assert_refused(Broken, ("index", 2), library, self.put, library, "a", Row((2, 7, 2)))
        self.put(library, "b", UNLIKE)
        self.put(library, "a", Row((2, 8, 2)))
        self.assertEqual([library["a"], library["b"], library.changes], [MOSTLY, UNLIKE, 7])
        library.lift(2)
        self.put(library, "a", Row((2, 7, 2)))

    def test_the_first_that_is_broken(self):
        library = led(putting("b", ONE), putting("a", EVENLY), putting("c", EVENLY))
        for name, wish in (
            ("b", ("likely", 0, (1, 2))), ("c", ("always",)), ("a", ("likely", 0, (0, 1))), ("a", ("comes", 4)),
            ("c", ("comes", 9)), ("a", ("comes", 3)), ("a", ("always",)), ("b", ("likely", 1, (1, 2))),
        ):
            library.wish(name, wish)
        self.assert_refused(Broken, ("index", 3), library, self.put, library, "a", UNLIKE)
        self.assert_refused(Broken, ("index", 6), library, self.put, library, "a", MOSTLY)
        self.assert_refused(Broken, ("index", 1), library, self.put, library, "c", MOSTLY)
        self.assert_refused(Broken, ("index", 0), library, self.put, library, "b", Row((1, 2)))
        self.assert_refused(Broken, ("index", 7), library, self.put, library, "b", Row((2, 1)))
        self.put(library, "d", UNLIKE)
        self.assert_refused(Broken, ("index", 8), library, library.wish, "d", ("comes", 3))

    def test_wishes_are_kept_behind_taking_back(self):
        library = led(putting("a", UNLIKE), putting("a", EVENLY), wishing("a", "always"))
        self.assert_refused(Broken, ("index", 0), library, self.put, library, "a", UNLIKE)
        library.undo()
        library.undo()
        self.assertEqual([library["a"], library.wishes], [UNLIKE, ()])
        self.assert_refused(Broken, ("index", 0), library, library.wish, "a", ("always",))


class TakingBack(LibraryCase):
    def test_each_kind(self):
        library = Library()
        steps = [
            putting("a", MOSTLY), wishing("a", "comes", 4), putting("b", ONE), lambda own: own.lift(0),
            lambda own: own.remove("b"), putting("a", UNLIKE), wishing("a", "misses", 3), lambda own: own.lift(index=0),
        ]
        states = [state(library)]
        for step in steps:
            step(library)
            states.append(state(library))
        for before in states[-2::-1]:
            self.assertIsNone(library.undo())
            self.assertEqual(state(library), before)
        self.assert_refused(NothingToUndo, None, library, library.undo)

    def test_other_changes_behind(self):
        library = led(putting("a", MOSTLY), putting("b", ONE))
        library.undo()
        library["c"] = EVENLY
        self.assertEqual([library.names, library.changes], [("a", "c"), 2])
        library.undo()
        library.undo()
        self.assert_refused(NothingToUndo, None, library, library.undo)

    def test_refused_ones_are_none(self):
        library = with_wishes()
        for call in (
            lambda: self.put(library, "A", ONE), lambda: self.put(library, "a", None), lambda: self.put(library, "a", UNLIKE),
            lambda: library.remove("x"), lambda: library.remove("a"), lambda: library.wish("x", ("always",)),
            lambda: library.wish("a", ()), lambda: library.wish("a", ("always",)), lambda: library.lift(3),
        ):
            self.assertRaises((ValueError, LookupError, NotPossible), call)
        self.assert_all_taken_back(library, 5)

    def test_many(self):
        library = Library()
        rows = [Row((1, many)) for many in range(2000)]
        for row in rows:
            library["a"] = row
        for row in rows[-2::-1]:
            library.undo()
            self.assertIs(library["a"], row)
        self.assertEqual(library.changes, 1)


class Trials(LibraryCase):
    def test_without_an_exception(self):
        library = with_wishes()
        with library.trial() as own:
            self.assertIs(own, library)
            own["c"] = ONE
            own.lift(0)
        self.assertEqual([library.names, library.changes, len(library.wishes)], [("a", "b", "c"), 7, 2])
        self.assert_all_taken_back(library, 7)

    def test_with_an_exception(self):
        library = with_wishes()
        before = state(library)
        for error in (Stop("x"), KeyError(1), Broken(3), ValueError(), KeyboardInterrupt(), GeneratorExit(), SystemExit()):
            with self.assertRaises(error.__class__) as raised:
                with library.trial():
                    library["c"] = ONE
                    library.lift(0)
                    library.undo()
                    library.undo()
                    library.undo()
                    library.wish("a", ("comes", 2))
                    raise error
            self.assertIs(raised.exception, error)
            self.assertEqual(state(library), before)
        self.assert_all_taken_back(library, 5)

    def test_what_was_taken_back_within(self):
        library = with_wishes()
        before = state(library)
        with self.assertRaises(Stop):
            with library.trial():
                for _ in range(5):
                    library.undo()
                self.assert_raises(NothingToUndo, None, library.undo)
                library["z"] = UNLIKE
                raise Stop()
        self.assertEqual(state(library), before)
        with library.trial():
            library.undo()
            library.undo()
            library["z"] = UNLIKE
        self.assertEqual([library.names, library.changes, len(library.wishes)], [("a", "b", "z"), 4, 1])
        self.assert_all_taken_back(library, 4)

    def test_a_refused_change_ends_it(self):
        library = with_wishes()
        before = state(library)

        def action(own):
            own["c"] = ONE
            own["a"] = UNLIKE

        self.assert_raises(Broken, ("index", 0), library.tried, action)
        self.assertEqual(state(library), before)

    def test_a_refused_change_that_is_caught(self):
        library = with_wishes()
        with library.trial():
            library["c"] = ONE
            self.assert_raises(Broken, ("index", 0), self.put, library, "a", UNLIKE)
        self.assertEqual([library.names, library.changes], [("a", "b", "c"), 6])

    def test_nothing_done(self):
        library = with_wishes()
        before = state(library)
        with library.trial():
            pass
        self.assertEqual(state(library), before)

    def test_left_by_return_break_and_continue(self):
        library = Library()

        def left():
            with library.trial():
                library["a"] = ONE
                return len(library)

        self.assertEqual([left(), library.changes], [1, 1])
        for _ in range(3):
            with library.trial():
                library["b"] = ONE
                continue
        for _ in range(3):
            with library.trial():
                library["c"] = ONE
                break
        self.assertEqual([library.names, library.changes], [("a", "b", "c"), 5])

    def test_it_begins_when_the_statement_begins(self):
        library = Library()
        trial = library.trial()
        library["a"] = ONE
        with self.assertRaises(Stop):
            with trial:
                library["b"] = ONE
                raise Stop()
        self.assertEqual([library.names, library.changes], [("a",), 1])

    def test_one_object_for_several_statements(self):
        library = Library()
        trial = library.trial()
        for many in range(3):
            with trial as own:
                self.assertIs(own, library)
                own[f"a{many}"] = ONE
            with self.assertRaises(Stop):
                with trial:
                    library[f"b{many}"] = ONE
                    library.undo()
                    library.undo()
                    raise Stop()
            self.assertEqual([len(library), library.changes], [many + 1, many + 1])

    def test_one_object_within_itself(self):
        library = Library()
        trial = library.trial()
        with self.assertRaises(Stop):
            with trial:
                library["a"] = ONE
                with trial:
                    library["b"] = ONE
                    with self.assertRaises(Stop):
                        with trial:
                            library.undo()
                            library.undo()
                            library["c"] = ONE
                            raise Stop()
                    self.assertEqual([library.names, library.changes], [("a", "b"), 2])
                self.assertEqual([library.names, library.changes], [("a", "b"), 2])
                raise Stop()
        self.assertEqual(state(library), state(Library()))
        with trial:
            library["a"] = ONE
        self.assertEqual(library.names, ("a",))

    def test_trials_within_trials(self):
        library = Library()
        one, two = library.trial(), library.trial()
        with one, two, one:
            library["a"] = ONE
            with self.assertRaises(Stop):
                with two:
                    library["b"] = ONE
                    with one, library.trial():
                        library["c"] = ONE
                    self.assertEqual(library.names, ("a", "b", "c"))
                    raise Stop()
            self.assertEqual(library.names, ("a",))
        self.assertEqual([library.names, library.changes], [("a",), 1])

    def test_an_exception_through_several(self):
        library = with_wishes()
        before = state(library)
        trial = library.trial()
        with self.assertRaises(Stop):
            with trial:
                library["c"] = ONE
                with trial, library.trial():
                    library["d"] = ONE
                    raise Stop()
        self.assertEqual(state(library), before)

    def test_tried(self):
        library = Library()
        for many, answer in enumerate((None, 0, (1, 2), library, Stop())):
            def action(own):
                self.assertIs(own, library)
                own["a"] = ONE
                return answer

            self.assertIs(library.tried(action) if many % 2 else library.tried(action=action), answer)
            self.assertEqual(library.changes, many + 1)
        self.assertEqual([library.tried(len), library.tried(bool), library.tried(Library.undo)], [1, True, None])
        self.assertEqual(library.changes, 4)

    def test_tried_passes_on(self):
        library = with_wishes()
        before, error = state(library), Stop()

        def action(own):
            own.undo()
            own["c"] = ONE
            raise error

        with self.assertRaises(Stop) as raised:
            library.tried(action)
        self.assertIs(raised.exception, error)
        self.assertEqual(state(library), before)
        self.assert_raises(NothingToUndo, None, Library().tried, Library.undo)

    def test_tried_within_tried(self):
        library = Library()

        def failing(own):
            own["b"] = ONE
            own.undo()
            own.undo()
            raise Stop()

        def deep(own):
            own["a"] = ONE
            self.assertRaises(Stop, own.tried, failing)
            return own.tried(lambda inner: (inner.names, inner.wish("a", ("always",))))

        self.assertEqual(library.tried(deep), (("a",), None))
        self.assertEqual([library.wishes, library.changes], [(("a", ("always",)),), 2])


class SideBySide(LibraryCase):
    def test_the_same_rows(self):
        one, two = led(putting("a", MOSTLY)), led(putting("a", MOSTLY))
        one.wish("a", ("comes", 4))
        two["a"] = UNLIKE
        self.assert_refused(Broken, ("index", 0), one, self.put, one, "a", UNLIKE)
        with self.assertRaises(Stop):
            with one.trial(), two.trial() as own:
                one.lift(0)
                own.undo()
                own.undo()
                raise Stop()
        self.assertEqual([one["a"], len(one.wishes), two["a"], two.changes], [MOSTLY, 1, UNLIKE, 2])
        with self.assertRaises(Stop):
            with one.trial():
                two.remove("a")
                one.lift(0)
                raise Stop()
        self.assertEqual([len(one.wishes), two.names], [1, ()])

    def test_never_equal(self):
        one, two = led(putting("a", MOSTLY)), led(putting("a", MOSTLY))
        self.assertTrue(one == one and not one != one)
        for other in (two, Library(), (), 0, None, True, {"a": MOSTLY}, MOSTLY, "a"):
            self.assertTrue(one != other and not one == other)
            self.assertTrue(other != one and not other == one)
        self.assertTrue(Library() != Library() and not Library() == Library())

    def test_always_true(self):
        for library in (Library(), with_wishes()):
            self.assertIs(bool(library), True)

    def test_what_was_told_stays(self):
        library = with_wishes()
        names, wishes, row = library.names, library.wishes, library["a"]
        library.lift(0)
        library["c"] = ONE
        library.lift(0)
        library.lift(0)
        library["a"] = UNLIKE
        self.assertEqual([names, len(wishes), row.counts], [("a", "b"), 3, (1, 4, 1)])
        self.assertTrue(all(holds(row, wish) for name, wish in wishes if name == "a"))

    def test_rows_and_wishes_stay_as_they_are(self):
        row, wish = Row((1, 4, 1)), ("likely", 1, (2, 3))
        library = led(putting("a", row), wishing("a", *wish))
        self.assert_refused(Broken, ("index", 0), library, self.put, library, "a", Row((1, 1, 1)))
        self.assertEqual([row.counts, row.text, wish], [(1, 4, 1), MOSTLY.text, ("likely", 1, (2, 3))])


if __name__ == "__main__":
    unittest.main()
