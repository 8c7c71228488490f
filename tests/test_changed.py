"""row.changed: changes of a row, all made at once."""

import unittest
from itertools import combinations, permutations

from drawnmore.errors import InvalidChanges, InvalidText
from drawnmore.rows import Row
from tests.helper import Case, no_integers, no_rows, some_rows, unusual


def changed_text(row, changes):
    """The text that comes of changes, with lines that are taken out."""
    lines = row.text.split("\n")
    for at, new in changes:
        lines[at] = new if new else None
    return "\n".join([line for line in lines if line is not None])


class Changing(Case):
    def setUp(self):
        self.row = Row((1, 4, 1))

    def check(self, row, changes, counts):
        before = [row.counts, row.text]
        self.assert_same_row(row.changed(changes), counts)
        self.assert_same_row(row.changed(changes=changes), counts)
        self.assertEqual([row.counts, row.text], before)

    def test_none(self):
        for row in some_rows(30):
            self.check(row, (), row.counts)

    def test_one(self):
        self.check(self.row, ((1, "yes 0 7"),), (7, 4, 1))
        self.check(self.row, ((2, "yes 1 2"),), (1, 2, 1))
        self.check(self.row, ((3, "yes 2 0"),), (1, 4, 0))
        self.check(self.row, ((0, "draws 2"),), (1, 4, 1))
        self.check(self.row, ((3, "yes 2 123456789012345678901234567890"),), (1, 4, 123456789012345678901234567890))

    def test_the_plain_text_is_changed(self):
        self.check(Row((2, 8, 2)), ((3, "yes 2 2"),), (1, 4, 2))
        self.check(Row((5, 5)), ((1, "yes 0 2"),), (2, 1))
        self.check(self.row, ((1, "yes 0 2"), (3, "yes 2 2")), (1, 2, 1))

    def test_several_in_any_order(self):
        changes = ((0, "draws 1"), (1, "yes 0 3"), (2, ""), (3, "yes 1 5"))
        for many in permutations(changes):
            self.check(self.row, many, (3, 5))

    def test_lines_taken_out(self):
        self.check(self.row, ((3, ""), (0, "draws 1")), (1, 4))
        self.check(self.row, ((0, "draws 1"), (1, ""), (2, "yes 0 2"), (3, "yes 1 3")), (2, 3))
        self.check(Row((1, 2, 3, 4, 5, 6)), ((0, "draws 2"), (4, ""), (5, ""), (6, "")), (1, 2, 3))
        self.check(Row((1, 2, 3, 4, 5, 6)), ((6, ""), (5, ""), (4, ""), (3, ""), (0, "draws 1")), (1, 2))

    def test_lines_exchanged(self):
        self.check(Row((1, 4, 2)), ((3, "yes 2 1"), (1, "yes 0 2")), (2, 4, 1))
        exchanged = ((0, "yes 0 1"), (1, "draws 2"))
        text = "yes 0 1\ndraws 2\nyes 1 4\nyes 2 1"
        self.assert_raises(InvalidText, ("given", text), self.row.changed, exchanged)

    def test_every_set_of_changes(self):
        news = ((0, "draws 1"), (1, "yes 0 2"), (2, ""), (3, "yes 1 3"), (3, ""), (2, "yes 1 6"))
        for many in range(len(news) + 1):
            for some in combinations(news, many):
                if len({at for at, _ in some}) < len(some):
                    continue
                text = changed_text(self.row, some)
                try:
                    right = Row.read(text)
                except InvalidText:
                    self.assert_raises(InvalidText, ("given", text), self.row.changed, some)
                else:
                    self.check(self.row, some, right.counts)

    def test_all_taken_out(self):
        for row in some_rows(20):
            changes = tuple((at, "") for at in range(row.draws + 2))
            self.assert_raises(InvalidText, ("given", ""), row.changed, changes)
            self.assert_raises(InvalidText, ("given", ""), row.changed, changes[::-1])

    def test_all_changed(self):
        for row in some_rows(20):
            lines = row.text.split("\n")
            changes = [(0, lines[0]), *[(k + 1, f"yes {k} {k + 3}") for k in range(row.draws + 1)]]
            right = Row(tuple(range(3, row.draws + 4))).counts
            self.check(row, tuple(changes), right)
            self.check(row, tuple(changes[::-1]), right)


class WrongTexts(Case):
    def check(self, changes, text):
        row = Row((1, 4, 1))
        self.assert_raises(InvalidText, ("given", text), row.changed, changes)
        self.assertEqual(row.counts, (1, 4, 1))

    def test_not_read(self):
        self.check(((0, "draws 3"),), "draws 3\nyes 0 1\nyes 1 4\nyes 2 1")
        self.check(((0, ""),), "yes 0 1\nyes 1 4\nyes 2 1")
        self.check(((3, ""),), "draws 2\nyes 0 1\nyes 1 4")
        self.check(((1, "yes 0 -1"),), "draws 2\nyes 0 -1\nyes 1 4\nyes 2 1")
        self.check(((1, " "),), "draws 2\n \nyes 1 4\nyes 2 1")
        self.check(((2, "x"), (1, "y")), "draws 2\ny\nx\nyes 2 1")

    def test_only_nothing(self):
        self.check(((1, "yes 0 0"), (2, "yes 1 0"), (3, "yes 2 0")), "draws 2\nyes 0 0\nyes 1 0\nyes 2 0")

    def test_texts_that_are_not_plain_are_given_as_they_are(self):
        self.check(((1, "yes 0 4"), (3, "yes 2 04")), "draws 2\nyes 0 4\nyes 1 4\nyes 2 04")


class WrongChanges(Case):
    RIGHT = ((1, "yes 0 2"), (3, "yes 2 2"), (0, "draws 2"))

    def check(self, changes, index):
        row = Row((1, 4, 1))
        self.assert_raises(InvalidChanges, ("index", index), row.changed, changes)
        self.assert_raises(InvalidChanges, ("index", index), row.changed, changes=changes)
        self.assertEqual([row.counts, row.text], [(1, 4, 1), "draws 2\nyes 0 1\nyes 1 4\nyes 2 1"])

    def wrong(self):
        found = [*no_rows(), Row((1, 1)), 3, "ab", [2, "yes 1 2"], (2,), (2, "yes 1 2", 3), ("yes 1 2", 2)]
        found += [(at, "yes 1 2") for at in [*no_integers(), -1, 4, 5, 10 ** 30, -(10 ** 30), 10 ** 999]]
        found += [(2, new) for new in [*unusual(), 0, 1, ("yes 1 2",), ["yes 1 2"], (), Row((1, 1))]]
        found += [(2, new) for new in ("\n", "yes 1 2\n", "\nyes 1 2", "yes 1 2\nyes 2 2", "\n\n")]
        return found

    def test_no_tuple(self):
        for value in [*unusual(), 0, 1, "", "ab", [(2, "yes 1 2")], [], {2: "yes 1 2"}, Row((1, 4, 1))]:
            self.check(value, None)

    def test_a_wrong_one_at_any_place(self):
        for wrong in self.wrong():
            for place in range(len(self.RIGHT) + 1):
                self.check(self.RIGHT[:place] + (wrong,) + self.RIGHT[place:], place)

    def test_the_first_of_several(self):
        for one in self.wrong():
            self.check((one, (9, "x")), 0)
            self.check((self.RIGHT[0], one, self.RIGHT[0]), 1)

    def test_the_same_line_twice(self):
        self.check(((2, "yes 1 2"), (2, "yes 1 2")), 1)
        self.check(((2, "yes 1 2"), (2, "yes 1 3")), 1)
        self.check(((2, ""), (2, "")), 1)
        self.check(((0, "draws 2"), (1, "yes 0 2"), (2, "yes 1 2"), (0, "draws 2"), (1, "yes 0 2")), 3)
        self.check(((0, "draws 2"), (3, "yes 2 2"), (3, ""), (9, "x")), 2)

    def test_indexes_of_the_lines(self):
        for draws in range(1, 6):
            row = Row((1,) * (draws + 1))
            last = f"yes {draws} 1"
            self.assertEqual(row.changed(((draws + 1, last),)), row)
            self.assert_raises(InvalidChanges, ("index", 0), row.changed, ((draws + 2, last),))

    def test_ahead_of_the_text(self):
        self.check(((0, "nothing"), (1, 5)), 1)
        self.check(((0, ""), (0, "")), 1)
        self.check(((0, "draws 9"), (9, "draws 2")), 1)


if __name__ == "__main__":
    unittest.main()
