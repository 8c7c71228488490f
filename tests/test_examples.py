"""The examples that the document gives, module by module."""

import unittest

from drawnmore.certificates import certify_comes, certify_greatest, certify_next
from drawnmore.checker import accepts
from drawnmore.consoles import Console
from drawnmore.errors import Broken, InvalidCounts, InvalidNumber, NoChance, NoUrns
from drawnmore.extending import against, always, comes, greatest, urns
from drawnmore.further import least_share, most_share, next_chances, next_yes, stretch
from drawnmore.libraries import Library
from drawnmore.making import all_yes, behind, coin_row, fewer, mixed, swapped, urn_row, urns_row
from drawnmore.mends import holds, mends
from drawnmore.rows import Row
from drawnmore.watches import Watch
from tests.helper import Case


class Examples(Case):
    def setUp(self):
        self.unlike = Row((0, 3, 0))
        self.mostly = Row((1, 4, 1))

    def test_rows(self):
        self.assertEqual(
            [
                self.unlike.counts,
                self.mostly.rates,
                self.unlike.text,
                self.mostly.changed(((2, "yes 1 2"),)).counts,
                Row.read("draws 1\nyes 0 2\nyes 1 4").counts,
                repr(self.mostly),
            ],
            [
                (0, 1, 0),
                ((1, 6), (2, 3), (1, 6)),
                "draws 2\nyes 0 0\nyes 1 1\nyes 2 0",
                (1, 2, 1),
                (1, 2),
                "Row of 2 draws",
            ],
        )

    def test_wrong_row(self):
        self.assert_raises(InvalidCounts, ("index", 1), Row, (1, -1))

    def test_making(self):
        self.assertEqual(
            [
                urn_row(4, 2, 2).counts,
                urns_row(3, ((0, (1, 2)), (2, (1, 2))), 2).counts,
                coin_row((1, 3), 2).counts,
                mixed((self.unlike, Row((1, 0, 1))), ((1, 2), (1, 2))).counts,
            ],
            [(1, 4, 1), (3, 2, 1), (4, 4, 1), (1, 2, 1)],
        )

    def test_of_rows(self):
        self.assertEqual(
            [
                all_yes(self.mostly, 1),
                all_yes(self.mostly, 2),
                swapped(Row((5, 0, 1))).counts,
                fewer(Row((1, 0, 0, 1)), 2).counts,
                behind(self.mostly, 1, 1).counts,
                behind(Row((1, 2, 3, 4)), 2, 0).counts,
            ],
            [(1, 2), (1, 6), (1, 0, 5), (1, 0, 1), (2, 1), (3, 2)],
        )

    def test_wrong_behind(self):
        self.assert_raises(InvalidNumber, ("given", 2), behind, self.unlike, 1, 2)

    def test_extending(self):
        unlike, mostly = self.unlike, self.mostly
        self.assertEqual(
            [
                comes(unlike, 2), comes(unlike, 3), against(unlike, 3), comes(mostly, 4), urns(mostly, 4),
                comes(mostly, 5), against(mostly, 5), comes(mostly, 1),
            ],
            [True, False, (1, 2), True, ((2, (1, 1)),), False, (2, 3), False],
        )
        self.assertEqual(
            [
                greatest(unlike), greatest(mostly), greatest(coin_row((1, 3), 3)), always(Row((1, 2, 1))),
                always(Row((1, 3, 1))), greatest(Row((10 ** 9, 2 * 10 ** 9 + 1, 10 ** 9))),
            ],
            [2, 4, None, True, False, 4000000002],
        )

    def test_further(self):
        unlike, mostly = self.unlike, self.mostly
        self.assertEqual(
            [
                most_share(Row((1, 2, 1)), 4, 2), most_share(mostly, 4, 2), most_share(mostly, 4, 0),
                most_share(Row((1, 2, 1)), 10 ** 30, 0), most_share(Row((1, 1)), 5, 5),
            ],
            [(3, 4), (1, 1), (0, 1), (1, 1000000000000000000000000000002), (1, 2)],
        )
        self.assertEqual(
            [
                next_chances(mostly, 4), next_yes(mostly, 1, 4), next_chances(Row((1, 2, 1)), 4),
                next_yes(Row((1, 2, 1)), 2, 4), next_chances(Row((1, 1)), 2),
            ],
            [
                ((0, 1), (0, 1)), ((1, 2), (1, 2)), ((1, 12), (1, 6)), ((1, 3), (2, 3)),
                ((0, 1), (1, 2)),
            ],
        )
        self.assertEqual(
            [
                least_share(unlike, Row((1, 0, 1)), 4), least_share(mostly, Row((1, 0, 1)), 4),
                least_share(unlike, Row((0, 1, 0)), 3),
            ],
            [(1, 3), (0, 1), None],
        )
        self.assertEqual(
            [
                stretch(mostly, 1, 4), stretch(unlike, 1, 3), stretch(unlike, 0, 3),
                stretch(Row((1, 0, 1)), 1, 3), stretch(Row((0, 1, 1)), 1, 2),
            ],
            [(0, 4), None, (1, None), (0, 4), (0, None)],
        )

    def test_no_further(self):
        self.assert_raises(NoUrns, None, next_chances, self.unlike, 3)

    def test_mends(self):
        mostly = self.mostly
        self.assertEqual(
            [
                holds(mostly, ("comes", 4)), holds(mostly, ("misses", 5)), holds(mostly, ("always",)),
                holds(mostly, ("likely", 1, (2, 3))), holds(mostly, ("likely", 7, (0, 1))),
                holds(mostly, ("comes", 1)),
            ],
            [True, True, False, True, True, False],
        )
        changes = ((2, "yes 1 2"), (1, "yes 0 2"), (3, "yes 2 2"), (2, "yes 1 5"))
        self.assertEqual(mends(mostly, (("always",),), changes), ((0,), (1, 2)))

    def test_watches(self):
        watch = Watch(self.mostly)
        self.assertEqual(
            [
                watch.note(True), watch.rest.counts, watch.note(False), watch.rest, len(watch), watch.undo(),
                watch.noted, watch.tried(len),
            ],
            [(1, 2), (2, 1), (2, 3), None, 2, None, (True,), 1],
        )

    def test_no_watch(self):
        self.assert_raises(NoChance, None, Watch(self.unlike).tried, lambda own: (own.note(True), own.note(True)))

    def test_consoles(self):
        console = Console()
        self.assertEqual(
            [
                console.do("row a 1 4 1"), console.do("row b 2 4 2"), console.do("counts b"), console.do("comes a 4"),
                console.do("comes a 5"), console.do("greatest a"), console.do("greatest b"), console.do("next a 1 4"),
                console.do("next a 1 5"),
            ],
            ["put", "put", "1 2 1", "yes", "no", "4", "always", "1/2 1/2", "none"],
        )
        self.assertEqual(
            [
                console.do("row c 0 0"), console.do("row C 1 1"), console.do("drop a"), console.do("comes a 4"),
                console.do("undo"), console.do("comes a 0"), console.names,
            ],
            ["no row", "no name", "dropped", "no such row", "undone", "no such line", ("a", "b")],
        )

    def test_libraries(self):
        library = Library()
        library["all"] = self.mostly
        library.wish("all", ("comes", 4))
        self.assertEqual(
            [library.names, library.wishes, library.changes, "all" in library],
            [("all",), (("all", ("comes", 4)),), 2, True],
        )
        self.assert_raises(Broken, ("index", 0), library.__setitem__, "all", self.unlike)

    def test_certificates(self):
        mostly, evenly = self.mostly, Row((1, 2, 1))
        found = (
            certify_comes(mostly, 4), certify_comes(mostly, 5), certify_greatest(mostly), certify_greatest(evenly),
            *certify_next(evenly, 4),
        )
        self.assertEqual(
            [
                [accepts(*pair) for pair in found], [pair[0][0] for pair in found], found[0][1], found[1][1],
                found[4][0][2:], found[5][0][2:],
            ],
            [
                [True, True, True, True, True, True], ["comes", "misses", "greatest", "always", "least", "most"],
                ((2, (1, 1)),), (2, 3), (4, (1, 12)), (4, (1, 6)),
            ],
        )

    def test_checker(self):
        unlike, mostly = self.unlike, self.mostly
        self.assertEqual(
            [
                accepts(("misses", unlike.text, 3), (1, 2)), accepts(("misses", unlike.text, 3), (0, 3)),
                accepts(("comes", unlike.text, 2), ((1, (1, 1)),)),
                accepts(("least", Row((1, 1)).text, 2, (0, 1)), (((1, (1, 1)),), (1, 2))),
                accepts(("always", mostly.text), ()),
            ],
            [True, False, True, True, False],
        )


if __name__ == "__main__":
    unittest.main()
