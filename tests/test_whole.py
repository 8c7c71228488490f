"""The guarantees over the whole program: ways that must come to one, and calls
that leave all as it was."""

import unittest
from fractions import Fraction

from drawnmore.certificates import certify_comes, certify_greatest, certify_next, certify_share
from drawnmore.checker import accepts
from drawnmore.consoles import Console
from drawnmore.errors import Broken, NoChance, NotPossible, NoUrns, WrongName, WrongValue
from drawnmore.extending import against, always, comes, greatest, urns
from drawnmore.further import least_share, most_share, next_chances, next_yes, stretch
from drawnmore.libraries import Library
from drawnmore.making import all_yes, behind, coin_row, fewer, mixed, swapped, urn_row, urns_row
from drawnmore.mends import holds, mends
from drawnmore.rows import Row
from drawnmore.watches import Watch
from tests.helper import MOST, Case, great_lots, is_true, longer, lot_rows, pair, picker, small_rows, some_rows

LONG = 123456789012345678901234567890
ROWS = [*small_rows(2, 2), *small_rows(3, 1), *some_rows(60, 91), *lot_rows(80, 9, 92), *great_lots(20, MOST, 93)]


def counts_of(row):
    return " ".join(map(str, row.counts))


def kept(library, name, wish):
    """Whether the library takes the wish; it is as it was afterwards."""
    try:
        library.wish(name, wish)
    except Broken:
        return False
    library.undo()
    return True


class OfHowManySlips(Case):
    def ways(self, row, slips):
        """Whether the row comes of the slips, told in all ways there are."""
        console, library = Console(), Library()
        console.do(f"row a {counts_of(row)}")
        library["a"] = row
        most = greatest(row)
        claim, certificate = certify_comes(row, slips)
        found = [
            comes(row, slips), urns(row, slips) is not None, against(row, slips) is None,
            slips >= row.draws and (most is None or slips <= most), holds(row, ("comes", slips)),
            not holds(row, ("misses", slips)), kept(library, "a", ("comes", slips)),
            not kept(library, "a", ("misses", slips)), console.do(f"comes a {slips}") == "yes", claim[0] == "comes",
            mends(row, (("comes", slips),), ()) == ((),), mends(row, (("misses", slips),), ()) == (),
        ]
        self.assertIs(accepts(claim, certificate), True)
        if slips >= row.draws:
            found.append(least_share(row, row, slips) == (0, 1))
            found.append(self.tells(lambda: most_share(row, slips, 0)))
        if slips > row.draws:
            found.append(self.tells(lambda: next_chances(row, slips)))
        return found

    def tells(self, call):
        try:
            call()
        except NoUrns:
            return False
        return True

    def test_all_ways(self):
        seen = {True: 0, False: 0}
        for row in ROWS:
            most = greatest(row) or LONG
            for slips in {1, row.draws, row.draws + 1, 9, min(most, MOST), min(most + 1, MOST), MOST}:
                ways = self.ways(row, slips)
                self.assertEqual(ways, [ways[0]] * len(ways), (row.counts, slips))
                seen[ways[0]] += 1
        self.assertGreater(min(seen.values()), 200)

    def test_always(self):
        for row in ROWS:
            console, library = Console(), Library()
            console.do(f"row a {counts_of(row)}")
            library["a"] = row
            found = [
                always(row), greatest(row) is None, holds(row, ("always",)), console.do("greatest a") == "always",
                certify_greatest(row)[0][0] == "always", accepts(("always", row.text), ()),
                kept(library, "a", ("always",)), mends(row, (("always",),), ()) == ((),),
            ]
            self.assertEqual(found, [found[0]] * len(found), row.counts)

    def test_greatest(self):
        for row in ROWS:
            most = greatest(row)
            console, library = Console(), Library()
            console.do(f"row a {counts_of(row)}")
            library["a"] = row
            self.assertEqual(console.do("greatest a"), "always" if most is None else str(most))
            claim, certificate = certify_greatest(row)
            self.assertEqual(claim, ("always", row.text) if most is None else ("greatest", row.text, most))
            self.assertIs(accepts(claim, certificate), True)
            if most is not None:
                for slips in (row.draws, most):
                    self.assertTrue(holds(row, ("comes", slips)) and kept(library, "a", ("comes", slips)))
                for slips in (most + 1, most * most + 9):
                    self.assertTrue(holds(row, ("misses", slips)) and kept(library, "a", ("misses", slips)))

    def test_what_is_made_comes(self):
        pick = picker(94)
        for slips in (5, 6, 9, LONG, MOST):
            for draws in range(1, 6):
                row = urn_row(slips, pick(slips + 1), draws)
                for other in (row, swapped(row), fewer(row, 1), mixed((row, swapped(row)), ((1, 3), (2, 3)))):
                    self.assertTrue(comes(other, slips))
                if draws > 1:
                    for yes in (0, 1):
                        try:
                            self.assertTrue(comes(behind(row, 1, yes), slips - 1))
                        except NoChance:
                            self.assertEqual(all_yes(row, 1), (1 - yes, 1))
        for draws in range(1, 6):
            self.assertTrue(always(coin_row((LONG, MOST + 9), draws)))


class Urns(Case):
    def test_lots_that_are_told_are_made_rows_again(self):
        for row in ROWS:
            for slips in (row.draws, row.draws + 1, 9, LONG, MOST):
                lots = [urns(row, slips)]
                if lots == [None]:
                    continue
                lots.append(certify_comes(row, slips)[1])
                lots += [certify_share(row, slips, yes)[1][0] for yes in (0, slips // 2, slips)]
                if slips > row.draws:
                    lots += [certificate[0] for _, certificate in certify_next(row, slips)]
                for lot in lots:
                    self.assertEqual(urns_row(slips, lot, row.draws), row)
                    self.assertIs(accepts(("comes", row.text, slips), lot), True)
                for (_, _, _, chance), (lot, _) in certify_next(row, slips) if slips > row.draws and row.draws < 5 else ():
                    self.assertEqual(all_yes(urns_row(slips, lot, row.draws + 1), row.draws + 1), chance)

    def test_those_of_the_greatest_number(self):
        for row in ROWS:
            claim, certificate = certify_greatest(row)
            if claim[0] == "greatest" and claim[2] <= MOST:
                self.assertEqual(urns_row(claim[2], certificate[0], row.draws), row)
                self.assertIs(accepts(("misses", row.text, claim[2] + 1), certificate[1]), True)

    def test_a_share_is_reached_in_the_lot(self):
        for row in lot_rows(60, 9, 95):
            if comes(row, 9):
                for yes in range(10):
                    (_, _, _, _, share), (lot, _) = certify_share(row, 9, yes)
                    self.assertEqual(share, most_share(row, 9, yes))
                    self.assertEqual(dict(lot).get(yes, (0, 1)), share)
                    self.assertLessEqual(Fraction(*dict(urns(row, 9)).get(yes, (0, 1))), Fraction(*share))


class FurtherDraws(Case):
    def test_all_ways(self):
        for row in ROWS:
            console = Console()
            console.do(f"row a {counts_of(row)}")
            for slips in (row.draws + 1, 9, MOST):
                if slips <= row.draws or not comes(row, slips):
                    self.assertEqual(console.do(f"next a 0 {slips}"), "none")
                    continue
                (least, _), (most, _) = certify_next(row, slips)
                self.assertEqual((least[3], most[3]), next_chances(row, slips))
                self.assertTrue(is_true(least) and is_true(most))
                for yes in range(row.draws + 1):
                    self.check_yes(row, yes, slips, console.do(f"next a {yes} {slips}"))

    def check_yes(self, row, yes, slips, told):
        """Behind the draws, one more is as the longer row tells."""
        if row.counts[yes] == 0:
            self.assertEqual(told, "none")
            return
        ends = next_yes(row, yes, slips)
        self.assertEqual(told, " ".join(f"{top}/{bottom}" for top, bottom in ends))
        if row.draws < 5:
            found = [all_yes(behind(longer(row, chance), row.draws, yes), 1) for chance in next_chances(row, slips)]
            self.assertEqual(sorted(found, key=lambda one: Fraction(*one)), list(ends))

    def test_watches_over_longer_rows(self):
        for row in lot_rows(40, 9, 96):
            if row.draws < 5 and comes(row, 10):
                for chance, end in zip(next_chances(row, 10), (0, 1)):
                    watch = Watch(longer(row, chance))
                    for at in range(row.draws):
                        if all_yes(row, at + 1) == (0, 1):
                            break
                        watch.note(True)
                    else:
                        self.assertEqual(all_yes(watch.rest, 1), next_yes(row, row.draws, 10)[end])


class Mending(Case):
    def test_mended_rows_are_taken_by_a_library(self):
        """All sets of changes: the least ones of those with which a library keeps all wishes."""
        pick = picker(97)
        found = 0
        for row in [*small_rows(2, 2), *lot_rows(30, 7, 98)]:
            changes = tuple((1 + pick(row.draws + 1), f"yes {pick(row.draws + 1)} {pick(5)}") for _ in range(4))
            wishes = ((("comes", row.draws + 1 + pick(3)),), (("always",), ("likely", 0, (1, 9))), (("misses", 5),))[pick(3)]
            good = []
            for many in range(16):
                some = tuple(at for at in range(4) if many >> at & 1)
                if len({changes[at][0] for at in some}) == len(some) and self.is_taken(row, wishes, changes, some):
                    good.append(some)
            least = [some for some in good if not any(set(one) < set(some) for one in good)]
            self.assertEqual(mends(row, wishes, changes), tuple(sorted(least, key=lambda some: (len(some), some))))
            found += len(least)
        self.assertGreater(found, 30)

    def is_taken(self, row, wishes, changes, some):
        library = Library()
        try:
            library["a"] = row.changed(tuple(changes[at] for at in some))
            for wish in wishes:
                library.wish("a", wish)
        except (WrongValue, Broken):
            return False
        return True


class Texts(Case):
    def test_texts_to_rows_to_texts(self):
        for row in [*ROWS, Row((10 ** 40, 1, 10 ** 40 + 7)), Row((10 ** 999, 1))]:
            again = Row.read(row.text)
            self.assertEqual([again, again.text, again.counts, row.changed(())], [row, row.text, row.counts, row])
            console = Console()
            self.assertEqual(console.do(f"row a {counts_of(row)}"), "put")
            self.assertEqual(console.do("counts a"), counts_of(row))
            library = Library()
            library["a"] = again
            self.assertEqual(library["a"].text, row.text)
            for claim, _ in (certify_comes(row, 7), certify_share(row, row.draws, 0)):
                self.assertEqual([Row.read(claim[1]), claim[1]], [row, row.text])


class AsItWas(Case):
    def asked(self, row):
        """All that can be asked of a row, as pairs of words and an answer or an error."""
        wishes = (("comes", 4), ("likely", 1, (1, 3)))
        changes = ((1, "yes 0 3"), (2, "yes 1 1"), (0, "draws 1"), (1, ""))
        calls = {
            "counts": lambda: row.counts, "rates": lambda: row.rates, "text": lambda: row.text, "words": lambda: repr(row),
            "changed": lambda: row.changed(changes[:2]).text, "all_yes": lambda: all_yes(row, 1),
            "swapped": lambda: swapped(row).text, "fewer": lambda: fewer(row, 1).text, "behind": lambda: behind(row, 1, 1).text,
            "mixed": lambda: mixed((row, swapped(row)), ((1, 2), (1, 2))).text, "always": lambda: always(row),
            "greatest": lambda: greatest(row), "certify_greatest": lambda: certify_greatest(row),
            "mends": lambda: mends(row, wishes, changes), "holds": lambda: [holds(row, wish) for wish in wishes],
            "watch": lambda: Watch(row).tried(lambda own: (own.note(True), own.rest and own.rest.text)),
        }
        for slips in (1, 4, 6, MOST):
            calls.update(self.calls_of_slips(row, slips))
        found = {}
        for words, call in calls.items():
            try:
                found[words] = call()
            except (WrongValue, NotPossible) as raised:
                found[words] = (raised.__class__.__name__, getattr(raised, "given", None), getattr(raised, "index", None))
        return found

    def calls_of_slips(self, row, slips):
        other = swapped(row)
        return {
            ("comes", slips): lambda: comes(row, slips), ("urns", slips): lambda: urns(row, slips),
            ("against", slips): lambda: against(row, slips), ("next", slips): lambda: next_chances(row, slips),
            ("next_yes", slips): lambda: next_yes(row, 1, slips), ("most", slips): lambda: most_share(row, slips, 1),
            ("least", slips): lambda: least_share(row, other, slips), ("stretch", slips): lambda: stretch(row, 1, slips),
            ("certify", slips): lambda: certify_comes(row, slips), ("ends", slips): lambda: certify_next(row, slips),
            ("share", slips): lambda: certify_share(row, slips, 1),
        }

    def test_one_row_asked_everything_by_turns(self):
        for row in [*lot_rows(25, 9, 99), *some_rows(15, 100)]:
            first = self.asked(row)
            library, console = Library(), Console()
            library["a"] = row
            console.do(f"row a {counts_of(row)}")
            self.assertEqual(self.asked(row), first)
            self.assertEqual(self.asked(library["a"]), first)
            self.assertEqual(self.asked(Row(row.counts)), first)
            self.assertEqual(self.asked(Row.read(row.text)), first)
            self.assertEqual([library["a"], library.changes, console.do("counts a")], [row, 1, counts_of(row)])

    def test_what_was_asked_changes_no_objects(self):
        row = Row((1, 4, 1))
        watch, library, console = Watch(row), Library(), Console()
        watch.note(True)
        library["a"] = row
        library.wish("a", ("comes", 4))
        console.do("row a 1 4 1")

        def state():
            return (row.text, watch.noted, watch.rest.text, watch.row, library.names, library.wishes, library.changes,
                    library["a"], console.names, console.do("counts a"))

        before = state()
        self.asked(row)
        self.asked(watch.rest)
        for value in (None, 7, "x", (None,), [], watch, library, console):
            for call in (Row, Row.read, row.changed, watch.note, library.remove, library.lift, greatest, certify_greatest,
                         lambda one: library.wish("a", one), lambda one: library.wish(one, ("always",)),
                         lambda one: library.__class__.__setitem__(library, "a", one), lambda one: library[one],
                         lambda one: comes(row, one) if one != 7 else comes(row, 0), lambda one: certify_next(row, one),
                         lambda one: certify_share(row, 4, one), lambda one: holds(row, one)):
                with self.assertRaises((WrongValue, WrongName, NotPossible)):
                    call(value)
            self.assertIs(accepts(value, value), False)
            self.assertIs(value in library, False)
            self.assertEqual(state(), before)

    def test_tuples_that_are_passed_stay(self):
        inner = ((1, 2), (1, 2))
        lot, changes, wish = ((0, (1, 2)), (2, (1, 2))), ((2, "yes 1 2"), (2, "yes 1 2")), ("likely", 1, (1, 3))
        rows = (Row((1, 1, 1)), Row((1, 4, 1)))
        for _ in range(2):
            mixed(rows, inner)
            urns_row(3, lot, 2)
            mends(rows[1], (wish,), changes)
            accepts(("comes", rows[1].text, 4), lot)
            library = Library()
            library["a"] = rows[1]
            library.wish("a", wish)
            self.assertIs(library.wishes[0][1], wish)
        self.assertEqual([inner, lot, changes, wish, [row.counts for row in rows]], [
            ((1, 2), (1, 2)), ((0, (1, 2)), (2, (1, 2))), ((2, "yes 1 2"), (2, "yes 1 2")), ("likely", 1, (1, 3)),
            [(1, 1, 1), (1, 4, 1)],
        ])

    def test_shares_add_up(self):
        """The urns of one lot have no more than the greatest shares, and the ends hold between."""
        for row in great_lots(20, MOST, 101):
            lot = urns(row, MOST)
            self.assertEqual(pair(sum(Fraction(*share) for _, share in lot)), (1, 1))
            for yes, share in lot:
                self.assertLessEqual(Fraction(*share), Fraction(*most_share(row, MOST, yes)))


if __name__ == "__main__":
    unittest.main()
