"""The errors of drawnmore.extending, drawnmore.further and drawnmore.mends: each
one alone, and several at once."""

import unittest

from drawnmore.errors import (
    InvalidChanges, InvalidNumber, InvalidWish, InvalidWishes, NoChance, NotRow, NoUrns, OtherDraws,
)
from drawnmore.extending import against, always, comes, greatest, urns
from drawnmore.further import least_share, most_share, next_chances, next_yes, stretch
from drawnmore.mends import holds, mends
from drawnmore.rows import Row
from tests.helper import (
    MOST, CallTable, Case, given, index, nested, no_fractions, no_integers, no_numbers, no_rows, unusual,
)

# It comes of five slips and no more.
ROW = Row((1, 2, 3, 4))
OTHER = Row((4, 3, 2, 1))
ALWAYS = Row((1, 3, 3, 1))
WISHES = (("comes", 3), ("likely", 2, (1, 2)), ("always",), ("misses", 10 ** 40))
CHANGES = ((1, "yes 0 2"), (4, ""), (0, "draws 2"), (1, "yes 0 2"))


def no_tuples():
    return [*unusual(), 0, 1, -1, 10 ** 999, "", "ab", Row((1, 1))]


def no_slips(least):
    """Whatever is no number of slips from this one on."""
    return [*no_numbers(1, MOST), *range(least)]


def no_wishes():
    """Whatever is no wish."""
    found = [*no_tuples(), (), ("comes", 3)[:1], ["comes", 3], ["always"], nested(10), nested(9, "always"), "always"]
    found += [("always", 1), ("always", ()), ("always", "always"), ("alway",), ("Always",), (b"always",), (1,), (None,)]
    found += [("come", 3), ("Comes", 3), ("", 3), (3, "comes"), (("comes",), 3), (b"comes", 3), (ROW, 3), (["comes"], 3)]
    for kind in ("comes", "misses"):
        found += [(kind,), (kind, 3, 3), (kind, (3,)), (kind, 0), (kind, -1), (kind, -(10 ** 999))]
        found += [(kind, value) for value in no_integers()]
    found += [("likely",), ("likely", 1), ("likely", (1, 2)), ("likely", (1, 2), 1), ("likely", 1, (1, 2), 0)]
    found += [("likely", 1, 1, 2), ("likely", -1, (1, 2)), ("likely", -(10 ** 999), (1, 2))]
    found += [("likely", value, (1, 2)) for value in no_integers()]
    found += [("likely", 1, value) for value in no_fractions()]
    return found


def wrong_wishes():
    """Wrong wishes, each with the index that is due."""
    found = [(value, None) for value in [*no_tuples(), list(WISHES), [], dict.fromkeys(WISHES)]]
    found += [(WISHES[2], 0), (WISHES[0], 0), (nested(10), 0)]
    for value in no_wishes():
        found += [((value,), 0), ((*WISHES, value), 4), ((WISHES[0], value, WISHES[1]), 1), ((value, value), 0)]
    found += [((WISHES[0], (), None), 1), ([None], None), ((*WISHES * 20, ()), 80)]
    return found


def no_changes():
    """Whatever is no change of a row of three draws."""
    found = [*no_rows(), 3, "ab", ROW, [2, "yes 1 2"], (2,), (2, "yes 1 2", 3), ("yes 1 2", 2), (), nested(9)]
    found += [(at, "yes 1 2") for at in [*no_integers(), -1, 5, 6, MOST, -MOST, 10 ** 999]]
    found += [(2, new) for new in [*unusual(), 0, 1, ("yes 1 2",), (), ROW]]
    found += [(2, new) for new in ("\n", "yes 1 2\n", "\nyes 1 2", "yes 1 2\nyes 2 2")]
    return found


def wrong_changes():
    """Wrong changes, each with the index that is due."""
    found = [(value, None) for value in [*no_tuples(), list(CHANGES), [], dict(CHANGES)]]
    for value in no_changes():
        found += [((value,), 0), ((*CHANGES, value), 4), ((CHANGES[0], value, CHANGES[1]), 1), ((value, value), 0)]
        found += [(CHANGES[:1] * 5 + (value, value), 5), (CHANGES[:1] * 6 + (value,), 6)]
    # Too many are wrong from the seventh on, if all before it are right.
    found += [(CHANGES[:1] * many, 6) for many in (7, 8, 100)]
    found += [(CHANGES[:1] * 3 + (None,) + CHANGES[:1] * 9, 3), ((None,) * 9, 0), ([None], None)]
    return found


# Each function with right arguments, and with the wrong ones in the order of
# the signature.
ROWS = given(NotRow, no_rows())
ASKED = {"row": ROWS, "slips": given(InvalidNumber, no_slips(1))}

CALLS = [
    (comes, {"row": ROW, "slips": 4}, ASKED),
    (urns, {"row": ROW, "slips": 4}, ASKED),
    (against, {"row": ROW, "slips": 7}, ASKED),
    (always, {"row": ROW}, {"row": ROWS}),
    (greatest, {"row": ROW}, {"row": ROWS}),
    (next_chances, {"row": ALWAYS, "slips": 7}, {"row": ROWS, "slips": given(InvalidNumber, no_slips(4))}),
    (next_yes, {"row": ALWAYS, "yes": 1, "slips": 7}, {
        "row": ROWS,
        "yes": given(InvalidNumber, [*no_numbers(0, 3), 4, 5, 6]),
        "slips": given(InvalidNumber, no_slips(4)),
    }),
    (most_share, {"row": ALWAYS, "slips": 7, "yes": 2}, {
        "row": ROWS,
        "slips": given(InvalidNumber, no_slips(3)),
        "yes": given(InvalidNumber, [*no_numbers(0, 7), 8]),
    }),
    (least_share, {"row": ROW, "other": OTHER, "slips": 7}, {
        "row": ROWS, "other": ROWS, "slips": given(InvalidNumber, no_slips(3)),
    }),
    (stretch, {"row": ROW, "yes": 1, "slips": 7}, {
        "row": ROWS,
        "yes": given(InvalidNumber, [*no_numbers(0, 3), 4, 5, 6]),
        "slips": given(InvalidNumber, no_slips(3)),
    }),
    (holds, {"row": ROW, "wish": ("comes", 4)}, {"row": ROWS, "wish": given(InvalidWish, no_wishes())}),
    (mends, {"row": ROW, "wishes": WISHES, "changes": CHANGES}, {
        "row": ROWS, "wishes": index(InvalidWishes, wrong_wishes()), "changes": index(InvalidChanges, wrong_changes()),
    }),
]


class Calls(CallTable, Case):
    CALLS = CALLS

    def test_right_arguments(self):
        for call, right, _ in CALLS:
            before = (ROW.counts, ROW.text, OTHER.counts, ALWAYS.counts)
            told = call(**right)
            self.assertEqual(told, call(*right.values()))
            self.assertEqual(told, call(**dict(reversed(right.items()))))
            self.assertEqual((ROW.counts, ROW.text, OTHER.counts, ALWAYS.counts), before)

    def test_refused_calls_change_nothing(self):
        row, before = Row((1, 2, 3, 4)), Row((1, 2, 3, 4))
        for call, right, wrong in CALLS:
            for name in list(right)[1:]:
                value, told = wrong[name][2][-1]
                self.assert_raises(wrong[name][0], (wrong[name][1], told), call, **{**right, "row": row, name: value})
                self.assertEqual((row.counts, row.text), (before.counts, before.text))


class Last(Case):
    """What is refused behind all arguments."""

    def setUp(self):
        self.unlike = Row((0, 1, 0))

    def test_no_urns(self):
        unlike = self.unlike
        for slips in (3, 4, MOST):
            self.assert_raises(NoUrns, None, next_chances, unlike, slips)
            for yes in range(3):
                self.assert_raises(NoUrns, None, next_yes, unlike, yes, slips)
                self.assert_raises(NoUrns, None, most_share, unlike, slips, yes)
            self.assert_raises(InvalidNumber, ("given", 3), next_yes, unlike, 3, slips)
            self.assert_raises(InvalidNumber, ("given", slips + 1), most_share, unlike, slips, slips + 1)
            self.assert_raises(InvalidNumber, ("given", -1), most_share, unlike, slips, -1)
            self.assertIsNone(least_share(unlike, unlike, slips))
            self.assertIsNone(stretch(unlike, 1, slips))
            self.assertIsNone(urns(unlike, slips))

    def test_no_chance_behind_no_urns(self):
        self.assert_raises(NoUrns, None, next_yes, Row((0, 1, 0)), 0, 5)
        self.assert_raises(NoChance, None, next_yes, Row((0, 1, 1)), 0, 3)
        self.assert_raises(NoChance, None, next_yes, Row((1, 0, 1)), 1, 5)
        self.assert_raises(InvalidNumber, ("given", 2), next_yes, Row((1, 0, 1)), 1, 2)
        self.assert_raises(InvalidNumber, ("given", 3), next_yes, Row((1, 0, 1)), 3, 2)

    def test_slips_and_draws(self):
        for draws in range(1, 6):
            row = Row((1,) * (draws + 1))
            for slips in range(-1, draws):
                for yes in (0, draws):
                    self.assert_raises(InvalidNumber, ("given", slips), next_chances, row, slips)
                    self.assert_raises(InvalidNumber, ("given", slips), next_yes, row, yes, slips)
                    self.assert_raises(InvalidNumber, ("given", slips), most_share, row, slips, yes)
                    self.assert_raises(InvalidNumber, ("given", slips), least_share, row, row, slips)
                    self.assert_raises(InvalidNumber, ("given", slips), stretch, row, yes, slips)
            self.assert_raises(InvalidNumber, ("given", draws), next_chances, row, draws)
            self.assert_raises(InvalidNumber, ("given", draws), next_yes, row, 0, draws)
            self.assertEqual(most_share(row, draws, 0), row.rates[0])
            self.assertEqual([least_share(row, row, draws), stretch(row, 0, draws)], [(0, 1), (0, None)])
            self.assertEqual(len(next_chances(row, draws + 1)), 2)

    def test_slips_up_to_the_greatest_number(self):
        row = ALWAYS
        calls = [
            lambda slips: comes(row, slips), lambda slips: urns(row, slips), lambda slips: against(row, slips),
            lambda slips: next_chances(row, slips), lambda slips: next_yes(row, 0, slips),
            lambda slips: most_share(row, slips, 0), lambda slips: least_share(row, row, slips),
            lambda slips: stretch(row, 0, slips),
        ]
        for call in calls:
            call(MOST)
            self.assert_raises(InvalidNumber, ("given", MOST + 1), call, MOST + 1)

    def test_other_draws(self):
        two, three = Row((1, 4, 1)), ROW
        self.assert_raises(OtherDraws, ("given", 3), least_share, two, three, 2)
        self.assert_raises(OtherDraws, ("given", 2), least_share, three, two, 3)
        # The slips are held against the row's draws, not the other one's.
        self.assert_raises(InvalidNumber, ("given", 2), least_share, three, two, 2)
        self.assert_raises(InvalidNumber, ("given", 1), least_share, two, three, 1)
        self.assert_raises(InvalidNumber, ("given", MOST + 1), least_share, two, three, MOST + 1)
        self.assert_raises(NotRow, ("given", (1, 1)), least_share, two, (1, 1), 1)

    def test_a_wish_is_right_whatever_the_row(self):
        for row in (ROW, Row((1, 0)), Row((0, 1, 0, 0, 0, 0))):
            for wish in (*WISHES, ("likely", 9, (7, 2)), ("likely", 0, (-7, 2)), ("comes", 1), ("misses", 1)):
                self.assertIn(holds(row, wish), (True, False))

    def test_changes_of_the_row_at_hand(self):
        for draws in range(1, 6):
            row = Row((1,) * (draws + 1))
            self.assertEqual(mends(row, (), ((draws + 1, "x"),)), ((),))
            self.assert_raises(InvalidChanges, ("index", 0), mends, row, (), ((draws + 2, "x"),))

    def test_six_changes_of_one_line(self):
        self.assertEqual(mends(ROW, (), CHANGES[:1] * 6), ((),))
        self.assert_raises(InvalidChanges, ("index", 6), mends, ROW, (), CHANGES[:1] * 7)

    def test_true_and_false_are_no_integers(self):
        row = Row((1, 1))
        for value in (True, False):
            for call in (comes, urns, against, next_chances):
                self.assert_raises(InvalidNumber, ("given", value), call, row, value)
            self.assert_raises(InvalidNumber, ("given", value), next_yes, row, value, 2)
            self.assert_raises(InvalidNumber, ("given", value), most_share, row, 2, value)
            self.assert_raises(InvalidNumber, ("given", value), stretch, row, value, 2)
            wish = ("comes", value)
            self.assert_raises(InvalidWish, ("given", wish), holds, row, wish)


if __name__ == "__main__":
    unittest.main()
