"""wantway.sheetlooks: [31], the least worths of a sheet and what shows them. (How both refuse: test_sheet.)"""

import copy
import unittest

from helpers import assert_own_list
from sheetsamples import CELLS, asks, bit, book, least_of, made_up_sheets, three
from wantway.sheet import Sheet
from wantway.sheetlooks import least, shows_least
from wantway.tables import table_of


class LeastTest(unittest.TestCase):
    def comes(self, cells, worths):
        told = least(book(), cells)
        self.assertIs(type(told), list)
        self.assertEqual([(name, worth) for name, worth, rank in told], [
            (name, worth) for (name, its_told), worth in zip(cells, worths)])
        self.assertEqual({type(row) for row in told}, {tuple})
        self.assertEqual({type(rank) for name, worth, rank in told}, {int})
        self.assertIs(shows_least(book(), cells, told), True)

    def test_by_hand(self):
        self.comes(CELLS, ["YES", "NO", "B", "YES", "YES", "NO", "C", "NO", None, None, None])

    def test_in_any_order(self):
        cells = [("d", asks("not", "c")), ("c", asks("not", "b")), ("b", asks("not", "a")), ("a", bit("NO"))]
        self.comes(cells, ["YES", "NO", "YES", "NO"])
        self.comes(cells[::-1], ["NO", "YES", "NO", "YES"])

    def test_round_and_round(self):
        self.comes([("a", asks("not", "a"))], [None])
        self.comes([("a", asks("not", "b")), ("b", asks("not", "a"))], [None, None])
        self.comes([("b", asks("and", "a", "c")), ("c", asks("not", "b")), ("a", bit("NO"))], ["NO", "YES", "NO"])
        self.comes([("b", asks("and", "a", "c")), ("c", asks("not", "b")), ("a", bit("YES"))], [None, None, "YES"])

    def test_what_is_told(self):
        self.comes([("a", bit(None))], [None])
        self.comes([("a", bit("YES"))], ["YES"])
        self.comes([("n", three("C")), ("a", asks("yes")), ("b", asks("loop"))], ["C", "YES", None])

    def test_thirty(self):
        names = [one + other for one in "abcdef" for other in "vwxyz"]
        cells = [(x, asks("not", y)) for x, y in zip(names, names[1:])] + [(names[-1], bit("NO"))]
        self.comes(cells, ["YES", "NO"] * 15)


class ShowsTest(unittest.TestCase):
    CELLS = [("a", bit("NO")), ("b", asks("not", "a")), ("c", asks("and", "c", "b")), ("d", asks("and", "a", "c")),
             ("e", bit(None))]
    ROWS = [("a", "NO", 1), ("b", "YES", 2), ("c", None, 0), ("d", "NO", 2), ("e", None, 0)]

    def shows(self, answer, rows, cells=None):
        self.assertIs(shows_least(book(), cells or self.CELLS, rows), answer)

    def test_right_ones(self):
        self.shows(True, self.ROWS)
        self.shows(True, self.ROWS[::-1])
        self.shows(True, self.ROWS[2:] + self.ROWS[:2])
        # Any ranks will do that rise along what is asked.
        self.shows(True, [("a", "NO", 7), ("b", "YES", 1000), ("c", None, 0), ("d", "NO", 8), ("e", None, 0)])
        self.shows(True, [("a", "NO", 1)], [("a", bit("NO"))])
        self.shows(True, [("a", "YES", 5)], [("a", asks("yes"))])

    def test_a_rank_bent(self):
        for at, ranks in ((0, (0, -1, 2, 3)), (1, (0, 1, -2)), (2, (1, -1, 9)), (3, (0, 1, -3)), (4, (1, -1))):
            for rank in ranks:
                rows = list(self.ROWS)
                rows[at] = rows[at][:2] + (rank,)
                self.shows(False, rows)

    def test_a_worth_bent(self):
        for at in range(5):
            for worth in ("NO", "YES", None, "A", "no", "", "Z"):
                if worth != self.ROWS[at][1]:
                    for rank in (0, 1, 2, 3):
                        rows = list(self.ROWS)
                        rows[at] = (rows[at][0], worth, rank)
                        self.shows(False, rows)

    def test_rows_left_out_and_more(self):
        for at in range(5):
            self.shows(False, self.ROWS[:at] + self.ROWS[at + 1:])
            self.shows(False, self.ROWS + [self.ROWS[at]])
            self.shows(False, self.ROWS[:at] + [self.ROWS[at - 1]] + self.ROWS[at + 1:])
            self.shows(False, self.ROWS[:at] + [("z",) + self.ROWS[at][1:]] + self.ROWS[at + 1:])
            self.shows(False, self.ROWS[:at] + [("",) + self.ROWS[at][1:]] + self.ROWS[at + 1:])
        self.shows(False, [])
        self.shows(False, self.ROWS + [("z", None, 0)])

    def test_more_than_the_least(self):
        # All that a ring tells of itself fits, but for the ranks.
        ring = [("a", asks("and", "b", "b")), ("b", asks("and", "a", "a"))]
        self.shows(True, [("a", None, 0), ("b", None, 0)], ring)
        for ranks in ((1, 1), (1, 2), (2, 1), (0, 0), (0, 1), (1, 0)):
            self.shows(False, [("a", "YES", ranks[0]), ("b", "YES", ranks[1])], ring)

    def test_less_than_the_least(self):
        self.shows(False, [("a", "NO", 1), ("b", None, 0), ("c", None, 0), ("d", "NO", 2), ("e", None, 0)])
        self.shows(False, [(name, None, 0) for name, told in self.CELLS])
        # Of rank 0 it is looked at by all its cells, whatever their ranks.
        self.shows(False, [("a", "NO", 9), ("b", None, 0)], [("a", bit("NO")), ("b", asks("not", "a"))])


class MadeUpTest(unittest.TestCase):
    def test_by_a_second_reading(self):
        ranks = {}
        for chance, the_book, cells, kinds in made_up_sheets(200, first=2000):
            told = least(the_book, cells)
            self.assertEqual([name for name, worth, rank in told], [name for name, its_told in cells])
            self.assertEqual({name: worth for name, worth, rank in told}, least_of(the_book, cells))
            self.assertIs(shows_least(the_book, cells, told), True)
            for name, worth, rank in told:
                ranks[rank] = True
        self.assertGreater(len(ranks), 4)

    def test_only_the_least_are_shown(self):
        shown = 0
        for chance, the_book, cells, kinds in made_up_sheets(300, first=2500):
            rows = list(least(the_book, cells))
            for again in range(4):
                at = chance.randrange(len(rows))
                name, worth, rank = rows[at]
                tags = the_book.kinds().worths_of(kinds[name])
                bent = rows[:at] + [(name, chance.choice(tags), chance.choice((rank, rank + 1, 0, 1)))] + rows[at + 1:]
                if shows_least(the_book, cells, bent):
                    shown += 1
                    self.assertEqual([row[:2] for row in bent], [row[:2] for row in rows])
        self.assertGreater(shown, 50)

    def test_beside_the_sheet(self):
        for chance, the_book, cells, kinds in made_up_sheets(60, first=3000):
            some = Sheet(the_book, cells)
            self.assertEqual([(name, some.ask(name)[0]) for name, told in cells],
                             [row[:2] for row in least(the_book, cells)])


class OwnTest(unittest.TestCase):
    def test_the_askers_own(self):
        the_book = book()
        assert_own_list(self, lambda: least(the_book, CELLS))

    def test_what_is_handed_in_stays(self):
        cells = copy.deepcopy(CELLS)
        rows = least(book(), cells)
        kept = copy.deepcopy(rows)
        shows_least(book(), cells, rows)
        shows_least(book(), cells, rows[::-1])
        self.assertEqual((cells, rows), (CELLS, kept))

    def test_asked_in_another_order(self):
        one, other = book(), book()
        table_of(other)
        Sheet(other, CELLS).ask("e")
        self.assertEqual(least(one, CELLS), least(other, CELLS))


if __name__ == "__main__":
    unittest.main()
