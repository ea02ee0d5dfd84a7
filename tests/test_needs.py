"""wantway.needs: [15] needed and spared, [16] what is wanted next."""

import unittest

import madeup
import oracle
from helpers import assert_only, assert_own_list
from samples import KINDS, NO, NO_ASKINGS, YES, ask, book, choose, name, one, other, pair
from wantway.books import Book
from wantway.errors import NoAsking, NoPart
from wantway.needs import is_needed, next_wanted, spared_by, walls_needed
from wantway.papers import is_paper
from wantway.tables import table_of, worth_of
from wantway.walls import wall_stands

PAIRS = (("p", "both"),)
DEEP = (("d", "deep"), ("x", "bit"))
NEEDS = Book(KINDS, [
    ("first", PAIRS, "bit", one(name("p"))),
    ("last", PAIRS, "bit", choose(one(name("p")), NO, other(name("p")))),
    ("all", PAIRS, "bit", choose(one(name("p")), other(name("p")), other(name("p")))),
    ("none", PAIRS, "bit", YES),
    ("never", PAIRS, "bit", ask("never", name("p"))),
    ("far", DEEP, "bit", choose(name("x"), one(other(name("d"))), ("choose", one(name("d")), (("U", YES),)))),
    ("held", PAIRS, "both", pair(other(name("p")), NO)),
])


def part(worth, way):
    for number in way:
        if worth is None or isinstance(worth, str):
            return None
        worth = worth[number]
    return worth


def ways(kinds, kind):
    """All ways as far as a kind has pairs."""
    shape = kinds.shape_of(kind)
    if shape[0] == "tags":
        return [()]
    return [()] + [(number,) + way for number in (0, 1) for way in ways(kinds, shape[1 + number])]


def all_parts(the_book):
    for f in the_book.names():
        for i, (x, kind) in enumerate(the_book.parameters(f)):
            for way in ways(the_book.kinds(), kind):
                yield f, i, way


def unknown(row):
    def behind(worth, way):
        if worth is None:
            return [way]
        if isinstance(worth, str):
            return []
        return behind(worth[0], way + (0,)) + behind(worth[1], way + (1,))

    return [(i, way) for i, worth in enumerate(row) for way in behind(worth, ())]


class NeededTest(unittest.TestCase):
    NEEDED = [
        ("first", 0, ()), ("first", 0, (0,)), ("last", 0, ()), ("last", 0, (0,)),
        ("all", 0, ()), ("all", 0, (0,)), ("all", 0, (1,)),
        ("never", 0, ()), ("never", 0, (0,)), ("never", 0, (1,)),
        ("far", 0, ()), ("far", 1, ()),
    ]

    def test_by_hand(self):
        for f, i, way in all_parts(NEEDS):
            self.assertIs(is_needed(NEEDS, f, i, way), (f, i, way) in self.NEEDED, (f, i, way))

    def test_a_pair_comes_without_its_parts(self):
        for way in ((), (0,), (1,)):
            self.assertIs(is_needed(NEEDS, "held", 0, way), False)
            self.assertEqual(spared_by(NEEDS, "held", 0, way)[0], (None,))

    def test_spared_by_hand(self):
        self.assertEqual(spared_by(NEEDS, "last", 0, (1,))[0], (("NO", None),))
        self.assertEqual(spared_by(NEEDS, "first", 0, (1,))[0], (("NO", None),))
        self.assertEqual(spared_by(NEEDS, "none", 0, ()), ((None,), [("none", (None,), "YES", 1)]))
        self.assertEqual(spared_by(NEEDS, "far", 0, (0,))[0], ((None, ("NO", None)), "NO"))
        self.assertEqual(spared_by(NEEDS, "far", 0, (1,))[0], (("U", None), "YES"))
        self.assertEqual(spared_by(NEEDS, "far", 0, (1, 0))[0], (("U", None), "YES"))
        self.assertIsNone(spared_by(NEEDS, "far", 0, ()))

    def test_walls_by_hand(self):
        walls = walls_needed(NEEDS, "last", 0, (0,))
        told = [(f, row, worth) for wall in walls for f, row, worth in wall]
        self.assertIn(("last", ((None, "NO"),), None), told)
        self.assertIn(("last", ((None, "YES"),), None), told)
        self.assertIsNone(walls_needed(NEEDS, "last", 0, (1,)))

    def test_each_part_of_each_parameter(self):
        seen = {True: 0, False: 0}
        for the_book in [book(), NEEDS] + madeup.books(120):
            table = table_of(the_book)
            for f, i, way in all_parts(the_book):
                rows = [row for row in the_book.rows_of(f) if part(row[i], way) is None]
                sparing = [row for row in rows if table[(f, row)] is not None]
                needed = is_needed(the_book, f, i, way)
                self.assertIs(needed, not sparing)
                seen[needed] += 1
                if needed:
                    self.assertIsNone(spared_by(the_book, f, i, way))
                    self.walls_show(the_book, f, i, way, rows)
                else:
                    self.assertIsNone(walls_needed(the_book, f, i, way))
                    self.row_shows(the_book, f, sparing[0], spared_by(the_book, f, i, way))
        self.assertGreater(min(seen.values()), 100)

    def walls_show(self, the_book, f, i, way, rows):
        walls = walls_needed(the_book, f, i, way)
        self.assertIs(type(walls), list)
        told = []
        for wall in walls:
            self.assertIs(type(wall), list)
            self.assertIs(wall_stands(the_book, wall), True)
            told.extend(wall)
        whole = [row for row in rows if unknown(row) == [(i, way)]]
        self.assertTrue(whole)
        for row in whole:
            self.assertIn((f, row, None), told)

    def row_shows(self, the_book, f, first, told):
        self.assertIs(type(told), tuple)
        row, paper = told
        self.assertEqual(row, first)
        self.assertIs(is_paper(the_book, paper), True)
        self.assertIn((f, row, worth_of(the_book, f, row)), [line[:3] for line in paper])

    def test_refusals(self):
        the_book = book()
        for tell in (is_needed, walls_needed, spared_by):
            for f, i, way in (("none", 0, ()), ("", 0, ()), ("none", 9, (0,)), ("NOT", -1, ()), ("p", 0, (0, 0, 0))):
                with self.assertRaises(NoAsking) as caught:
                    tell(the_book, f, i, way)
                assert_only(self, caught.exception, NoAsking)
            no_parts = [
                ("not", 1, ()), ("not", -1, ()), ("not", 0, (0,)), ("not", 0, (1,)), ("loop", 0, ()), ("loop", -1, ()),
                ("and", 2, ()), ("and", -2, ()), ("and", 10 ** 20, ()), ("and", 1, (0,)), ("swap", 0, (0, 0)),
                ("swap", 0, (1, 1)), ("swap", 1, (0,)), ("knot", 0, (1, 0)), ("knot", 1, (0,)), ("knot", 2, ()),
                ("knot", -1, (0,)), ("swap", 0, (0,) * 50),
            ]
            for f, i, way in no_parts:
                with self.assertRaises(NoPart) as caught:
                    tell(the_book, f, i, way)
                assert_only(self, caught.exception, NoPart)

    def test_the_askers_own(self):
        assert_own_list(self, lambda: walls_needed(NEEDS, "all", 0, (0,)))
        assert_own_list(self, lambda: walls_needed(NEEDS, "all", 0, (0,))[0])
        assert_own_list(self, lambda: spared_by(NEEDS, "none", 0, ())[1])


class NextWantedTest(unittest.TestCase):
    def test_by_hand(self):
        wanted = [
            ("last", (None,), [(0, ())]),
            ("last", ((None, None),), [(0, (0,))]),
            ("last", ((None, "NO"),), [(0, (0,))]),
            ("last", (("YES", None),), [(0, (1,))]),
            ("last", (("NO", None),), []),
            ("last", (("YES", "NO"),), []),
            ("all", ((None, None),), [(0, (0,)), (0, (1,))]),
            ("all", (("NO", None),), [(0, (1,))]),
            ("none", (None,), []),
            ("never", (None,), None),
            ("never", (("NO", None),), None),
            ("never", (("NO", "NO"),), None),
            ("far", (None, None), [(0, ()), (1, ())]),
            ("far", ((None, None), None), [(1, ())]),
            ("far", ((None, None), "NO"), [(0, (1,))]),
            ("far", ((None, (None, None)), "NO"), [(0, (1, 0))]),
            ("far", ((None, (None, "NO")), "YES"), [(0, (0,))]),
            ("far", (("U", (None, None)), "YES"), []),
        ]
        for f, row, ways_told in wanted:
            self.assertEqual(next_wanted(NEEDS, f, row), ways_told, (f, row))

    def test_each_row(self):
        seen = {"list": 0, "many": 0, "none": 0, "has": 0}
        for the_book in [book(), NEEDS] + madeup.books(120):
            table = table_of(the_book)
            for f, row in madeup.askings(the_book):
                told = next_wanted(the_book, f, row)
                if table[(f, row)] is not None:
                    self.assertEqual(told, [])
                    seen["has"] += 1
                    continue
                greater = [more for more in the_book.rows_of(f) if oracle.row_under(row, more) and table[(f, more)]]
                if not greater:
                    self.assertIsNone(told)
                    seen["none"] += 1
                    continue
                ways_known = [(i, way) for i, way in unknown(row) if all(part(more[i], way) for more in greater)]
                self.assertEqual(told, ways_known)
                self.assertEqual(told, sorted(told))
                self.assertGreaterEqual(len(told), 1)
                seen["list" if len(told) == 1 else "many"] += 1
        self.assertGreater(min(seen.values()), 20)

    def test_no_asking(self):
        for f, worths in NO_ASKINGS:
            with self.assertRaises(NoAsking) as caught:
                next_wanted(book(), f, worths)
            assert_only(self, caught.exception, NoAsking)

    def test_the_askers_own(self):
        assert_own_list(self, lambda: next_wanted(NEEDS, "all", ((None, None),)))
        assert_own_list(self, lambda: next_wanted(NEEDS, "none", (None,)))


if __name__ == "__main__":
    unittest.main()
