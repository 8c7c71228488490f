"""Watch: noting, taking back, trials, held against a new watch over the same
row and against going through all orders."""

import unittest
from fractions import Fraction
from itertools import product

from drawnmore.errors import InvalidChance, NoChance, NoMore, NothingToUndo, NotRow
from drawnmore.making import behind, coin_row, urn_row
from drawnmore.rows import Row
from drawnmore.watches import Watch
from tests.helper import MOST, Case, from_orders, no_rows, nested, orders, pair, picker, small_rows, some_rows, unusual

ROWS = [*small_rows(3, 2), *some_rows(60)]
LONG = 123456789012345678901234567890


def right_chance(row, told):
    """The chance that the draws begin like this, from all orders."""
    return sum(chance for order, chance in orders(row).items() if order[:len(told)] == tuple(map(int, told)))


def state(watch):
    """All that a watch tells."""
    return (watch.row, watch.noted, watch.rest and watch.rest.counts, len(watch), bool(watch))


def led(row, told):
    """A new watch over the row with these notings."""
    watch = Watch(row)
    for outcome in told:
        watch.note(outcome)
    return watch


class Stop(Exception):
    """Something that a block may raise."""


class WatchCase(Case):
    def assert_like_new(self, watch, row, told):
        """The watch is as a new one with these notings, now and when it is led on and back."""
        self.assertIs(watch.row, row)
        self.assertEqual(state(watch), state(led(row, told)))
        self.assertEqual(watch.noted, tuple(told))
        for count in range(len(told)):
            self.assertIsNone(watch.undo())
            self.assertEqual(state(watch), state(led(row, told[:len(told) - 1 - count])))
        self.assert_raises(NothingToUndo, None, watch.undo)
        for outcome in told:
            watch.note(outcome)
        self.assertEqual(watch.noted, tuple(told))


class Noting(WatchCase):
    def test_all_orders(self):
        for row in ROWS:
            for told in product((True, False), repeat=row.draws):
                watch = Watch(row)
                before = Fraction(1)
                for at in range(row.draws):
                    chance = right_chance(row, told[:at + 1])
                    if chance == 0:
                        self.assert_raises(NoChance, None, watch.note, told[at])
                        self.assertEqual(watch.noted, told[:at])
                        break
                    self.assert_fraction(watch.note(told[at]), chance / before)
                    self.assertEqual(watch.noted, told[:at + 1])
                    before = chance
                else:
                    self.assertIsNone(watch.rest)
                    for outcome in (True, False):
                        self.assert_raises(NoMore, None, watch.note, outcome)

    def test_the_rest(self):
        for row in ROWS:
            for told in product((True, False), repeat=row.draws - 1):
                if right_chance(row, told) == 0:
                    continue
                watch = Watch(row)
                for at in range(row.draws):
                    left = {order[at:]: chance for order, chance in orders(row).items()
                            if order[:at] == tuple(map(int, told[:at]))}
                    self.assert_same_row(watch.rest, from_orders(left))
                    if at > 0:
                        self.assertEqual(watch.rest, behind(row, at, sum(told[:at])))
                    if at < len(told):
                        watch.note(told[at])

    def test_at_first(self):
        for row in ROWS:
            watch = Watch(row)
            self.assertIs(watch.row, row)
            self.assertEqual([watch.noted, watch.rest, len(watch), bool(watch)], [(), row, 0, True])
            self.assertEqual(Watch(row=row).rest, row)

    def test_true_and_kinds(self):
        watch = Watch(Row((1, 4, 1)))
        chance = watch.note(outcome=True)
        self.assertEqual([chance, watch.noted], [(1, 2), (True,)])
        self.assertEqual([watch.noted.__class__, watch.noted[0].__class__, len(watch).__class__], [tuple, bool, int])
        watch.note(False)
        self.assertEqual([watch.noted[1].__class__, watch.rest, bool(watch)], [bool, None, True])

    def test_one_draw_and_five(self):
        watch = Watch(Row((1, 3)))
        self.assertEqual([watch.note(False), watch.rest, len(watch)], [(1, 4), None, 1])
        self.assert_raises(NoMore, None, watch.note, True)
        watch = Watch(urn_row(9, 4, 5))
        told = [watch.note(outcome) for outcome in (True, True, False, True, False)]
        self.assertEqual(told, [(4, 9), (3, 8), (5, 7), (1, 3), (4, 5)])
        self.assertEqual([watch.rest, len(watch)], [None, 5])

    def test_chances_of_no_and_all(self):
        watch = Watch(coin_row((0, 1), 5))
        for _ in range(5):
            self.assert_raises(NoChance, None, watch.note, True)
            self.assertEqual(watch.note(False), (1, 1))
        watch = Watch(coin_row((1, 1), 3))
        for _ in range(3):
            self.assert_raises(NoChance, None, watch.note, False)
            self.assertEqual(watch.note(True), (1, 1))

    def test_urns_and_coins_of_thirty_figures(self):
        watch = Watch(urn_row(MOST, LONG, 5))
        for drawn, outcome in enumerate((True, False, False, True, True)):
            hits = LONG - sum(watch.noted)
            self.assertEqual(watch.rest, urn_row(MOST - drawn, hits, 5 - drawn))
            chance = Fraction(hits, MOST - drawn)
            self.assertEqual(watch.note(outcome), pair(chance if outcome else 1 - chance))
        watch = Watch(coin_row((LONG, MOST + 7), 5))
        for outcome in (False, False, True, False, True):
            self.assertEqual(watch.note(outcome), pair(Fraction(LONG if outcome else MOST + 7 - LONG, MOST + 7)))

    def test_counts_of_forty_figures(self):
        pick = picker(81)
        for _ in range(30):
            row = Row(tuple(1 + pick(10 ** 40) for _ in range(2 + pick(5))))
            watch, told = Watch(row), ()
            for _ in range(row.draws):
                before = right_chance(row, told)
                told = (*told, pick(2) == 1)
                self.assert_fraction(watch.note(told[-1]), right_chance(row, told) / before)

    def test_wrong_rows(self):
        for value in no_rows():
            self.assert_raises(NotRow, ("given", value), Watch, value)
            self.assert_raises(NotRow, ("given", value), Watch, row=value)

    def test_wrong_outcomes_go_ahead(self):
        values = [value for value in unusual() if value is not True and value is not False]
        values += [0, 1, -1, "", "yes", "True", (), (True,), nested(10), 10 ** 999, Row((1, 1)), Watch(Row((1, 1)))]
        open_one, full, sure = Watch(Row((1, 4, 1))), led(Row((1, 4, 1)), (True, False)), Watch(coin_row((1, 1), 2))
        for watch in (open_one, full, sure):
            before = state(watch)
            for value in values:
                self.assert_raises(InvalidChance, ("given", value), watch.note, value)
                self.assert_raises(InvalidChance, ("given", value), watch.note, outcome=value)
            self.assertEqual(state(watch), before)

    def test_no_more_goes_ahead_of_no_chance(self):
        watch = led(coin_row((1, 1), 2), (True, True))
        self.assert_raises(NoMore, None, watch.note, False)
        self.assert_raises(NoMore, None, watch.note, True)
        self.assertEqual(watch.noted, (True, True))

    def test_the_row_stays(self):
        row = Row((1, 2, 3, 4))
        watch = Watch(row)
        for outcome in (True, False, True):
            watch.note(outcome)
        self.assertEqual([row.counts, watch.row.counts], [(1, 2, 3, 4)] * 2)


class TakingBack(WatchCase):
    def test_undo(self):
        watch = Watch(Row((1, 4, 1)))
        self.assert_raises(NothingToUndo, None, watch.undo)
        watch.note(True)
        watch.note(False)
        self.assertIsNone(watch.undo())
        self.assertEqual([watch.noted, watch.rest.counts], [(True,), (2, 1)])
        self.assertEqual(watch.note(True), (1, 3))
        self.assertIsNone(watch.undo())
        self.assertIsNone(watch.undo())
        self.assert_raises(NothingToUndo, None, watch.undo)
        self.assertEqual([watch.noted, watch.rest], [(), Row((1, 4, 1))])

    def test_refused_ones_are_not_taken_back(self):
        watch = Watch(Row((0, 1, 0)))
        watch.note(True)
        self.assert_raises(NoChance, None, watch.note, True)
        self.assert_raises(InvalidChance, ("given", 1), watch.note, 1)
        watch.undo()
        self.assert_raises(NothingToUndo, None, watch.undo)
        self.assertEqual(watch.noted, ())

    def test_the_other_way_afterwards(self):
        for row in ROWS[::5]:
            watch = Watch(row)
            for outcome in (True, False):
                if right_chance(row, (outcome,)):
                    watch.note(outcome)
                    self.assert_like_new(watch, row, (outcome,))
                    watch.undo()


class Trials(WatchCase):
    def test_taken_back_at_the_end(self):
        watch = led(Row((1, 2, 3, 4)), (True,))
        with watch.trial() as own:
            self.assertIs(own, watch)
            own.note(False)
            own.note(True)
            self.assertEqual(watch.noted, (True, False, True))
        self.assert_like_new(watch, watch.row, (True,))

    def test_what_was_taken_back_within(self):
        watch = led(Row((1, 2, 3, 4)), (True, False))
        with watch.trial():
            watch.undo()
            watch.undo()
            self.assert_raises(NothingToUndo, None, watch.undo)
            watch.note(False)
        self.assert_like_new(watch, watch.row, (True, False))

    def test_nothing_done(self):
        watch = led(Row((1, 2, 3, 4)), (True,))
        with watch.trial():
            pass
        self.assert_like_new(watch, watch.row, (True,))

    def test_errors_are_passed_on(self):
        watch = led(Row((1, 2, 3, 4)), (True,))
        for error in (Stop("x"), KeyError(1), NoMore(), KeyboardInterrupt(), GeneratorExit()):
            with self.assertRaises(error.__class__) as raised:
                with watch.trial():
                    watch.note(False)
                    raise error
            self.assertIs(raised.exception, error)
            self.assert_like_new(watch, watch.row, (True,))

    def test_left_by_return_break_and_continue(self):
        watch = Watch(Row((1, 2, 3, 4)))

        def left():
            with watch.trial():
                watch.note(True)
                return len(watch)

        self.assertEqual([left(), len(watch)], [1, 0])
        for _ in range(3):
            with watch.trial():
                watch.note(True)
                continue
        for _ in range(3):
            with watch.trial():
                watch.note(True)
                break
        self.assert_like_new(watch, watch.row, ())

    def test_it_begins_when_the_statement_begins(self):
        watch = Watch(Row((1, 2, 3, 4)))
        trial = watch.trial()
        watch.note(True)
        with trial:
            watch.note(False)
        self.assert_like_new(watch, watch.row, (True,))

    def test_one_object_for_several_statements(self):
        watch = Watch(Row((1, 2, 3, 4)))
        trial = watch.trial()
        for many in range(3):
            with trial as own:
                self.assertIs(own, watch)
                own.note(True)
                self.assertEqual(len(watch), many + 1)
            self.assertEqual(len(watch), many)
            watch.note(False)
        self.assert_like_new(watch, watch.row, (False, False, False))

    def test_one_object_within_itself(self):
        watch = Watch(Row((1, 2, 3, 4, 5)))
        trial = watch.trial()
        with trial:
            watch.note(True)
            with trial:
                watch.note(False)
                with trial:
                    watch.undo()
                    watch.undo()
                    self.assertEqual(watch.noted, ())
                self.assertEqual(watch.noted, (True, False))
            self.assertEqual(watch.noted, (True,))
            with self.assertRaises(Stop):
                with trial:
                    watch.note(True)
                    raise Stop()
            self.assertEqual(watch.noted, (True,))
        self.assert_like_new(watch, watch.row, ())

    def test_trials_within_trials(self):
        watch = Watch(Row((1, 2, 3, 4, 5)))
        one, two = watch.trial(), watch.trial()
        with one, two, one:
            watch.note(True)
            with two:
                watch.note(False)
                with one, watch.trial():
                    watch.undo()
                    watch.undo()
                self.assertEqual(watch.noted, (True, False))
            self.assertEqual(watch.noted, (True,))
        self.assert_like_new(watch, watch.row, ())

    def test_an_error_through_several(self):
        watch = led(Row((1, 2, 3, 4, 5)), (True,))
        trial = watch.trial()
        with self.assertRaises(Stop):
            with trial:
                watch.note(True)
                with trial:
                    watch.note(False)
                    raise Stop()
        self.assert_like_new(watch, watch.row, (True,))
        with trial:
            watch.note(False)
        self.assert_like_new(watch, watch.row, (True,))

    def test_tried(self):
        watch = led(Row((1, 2, 3, 4)), (True,))
        for answer in (None, 0, (1, 2), watch, Stop()):
            def action(own):
                self.assertIs(own, watch)
                own.note(False)
                return answer

            self.assertIs(watch.tried(action), answer)
            self.assertIs(watch.tried(action=action), answer)
            self.assert_like_new(watch, watch.row, (True,))
        self.assertEqual([watch.tried(len), watch.tried(bool), watch.tried(Watch.undo)], [1, True, None])
        self.assertEqual(watch.noted, (True,))

    def test_tried_within_tried(self):
        watch = led(Row((1, 2, 3, 4)), (True,))

        def deep(own):
            own.note(False)
            return (own.noted, own.tried(lambda inner: (inner.note(True), inner.noted)), own.noted)

        self.assertEqual(watch.tried(deep), ((True, False), ((3, 5), (True, False, True)), (True, False)))
        self.assert_like_new(watch, watch.row, (True,))

    def test_tried_passes_on(self):
        watch = Watch(Row((0, 1, 0)))
        self.assert_raises(NoChance, None, watch.tried, lambda own: (own.note(True), own.note(True)))
        self.assert_raises(NothingToUndo, None, watch.tried, Watch.undo)
        self.assert_like_new(watch, watch.row, ())


class SideBySide(WatchCase):
    def test_two_over_one_row(self):
        row = Row((1, 2, 3, 4))
        one, two = Watch(row), Watch(row)
        one.note(True)
        with one.trial():
            two.note(False)
            one.note(True)
            two.note(False)
        self.assert_like_new(one, row, (True,))
        self.assert_like_new(two, row, (False, False))

    def test_one_within_a_trial_of_the_other(self):
        one, two = Watch(Row((1, 2, 3, 4))), Watch(Row((1, 4, 1)))
        with one.trial(), two.trial():
            one.note(True)
            with two.trial():
                two.note(True)
                one.note(False)
            self.assertEqual([one.noted, two.noted], [(True, False), ()])
        self.assertEqual([one.noted, two.noted], [(), ()])

    def test_never_equal(self):
        row = Row((1, 4, 1))
        one, two = Watch(row), Watch(row)
        self.assertTrue(one == one and not one != one)
        for other in (two, row, (), 0, None, True, led(row, (True,))):
            self.assertTrue(one != other and not one == other)
            self.assertTrue(other != one and not other == one)

    def test_always_true(self):
        for row in ROWS[::9]:
            self.assertIs(bool(Watch(row)), True)

    def test_left_alone_by_what_it_told(self):
        watch = Watch(Row((1, 4, 1)))
        rest, noted = watch.rest, watch.noted
        watch.note(True)
        self.assertEqual([rest.counts, noted], [(1, 4, 1), ()])

    def test_led_about(self):
        """Many steps of all kinds, held against a list of what was noted."""
        pick = picker(82)
        for row in [*ROWS[::6], *[coin_row((1, 3), draws) for draws in range(1, 6)]]:
            watch, told = Watch(row), []
            trial = watch.trial()
            self.lead(watch, told, trial, pick, 3)
            self.assert_like_new(watch, row, told)

    def lead(self, watch, told, trial, pick, depth):
        for _ in range(9):
            what = pick(6)
            if what < 3:
                outcome = pick(2) == 1
                if len(told) == watch.row.draws:
                    self.assert_raises(NoMore, None, watch.note, outcome)
                elif right_chance(watch.row, (*told, outcome)) == 0:
                    self.assert_raises(NoChance, None, watch.note, outcome)
                else:
                    right = right_chance(watch.row, (*told, outcome)) / right_chance(watch.row, told)
                    self.assert_fraction(watch.note(outcome), right)
                    told.append(outcome)
            elif what == 3 and told:
                watch.undo()
                told.pop()
            elif what == 3:
                self.assert_raises(NothingToUndo, None, watch.undo)
            elif depth and what == 4:
                with trial:
                    self.lead(watch, list(told), trial, pick, depth - 1)
            elif depth:
                watch.tried(lambda own: self.lead(own, list(told), trial, pick, depth - 1))
            self.assertEqual(watch.noted, tuple(told))
            self.assertEqual(len(watch), len(told))


if __name__ == "__main__":
    unittest.main()
