"""wantway.walls: [14], walls that show that no more comes; [3], papers and walls meet."""

import random
import unittest

import madeup
import oracle
from helpers import assert_only, assert_own_list
from samples import KINDS, NO, NO_ASKINGS, YES, ask, book, choose, let, name, pair
from wantway.books import Book
from wantway.errors import NoAsking
from wantway.papers import paper_of
from wantway.tables import table_of, worth_of
from wantway.walls import wall_of, wall_stands

LOOP = [("loop", (), None)]
PILE = [("pile", (), ("NO", "YES")), ("not", ("NO",), "YES")]
EVEN = [("even", ("C",), "YES"), ("odd", ("B",), "YES"), ("even", ("A",), "YES")]


class WallOfTest(unittest.TestCase):
    def test_the_wall_of_each_asking(self):
        for the_book in [book()] + madeup.books(150):
            for f, row in madeup.askings(the_book):
                wall = wall_of(the_book, f, row)
                self.assertIs(wall_stands(the_book, wall), True)
                self.assertTrue(oracle.wall_is_right(the_book, wall))
                self.assertIn((f, row, worth_of(the_book, f, row)), wall)

    def test_tuples(self):
        for wall, f, row in ((LOOP, "loop", ()), (PILE, "pile", ()), (EVEN, "even", ("C",))):
            told = wall_of(book(), f, row)
            self.assertIs(type(told), list)
            self.assertEqual(sorted(told, key=repr), sorted(wall, key=repr))

    def test_papers_and_walls_meet(self):
        for the_book in [book()] + madeup.books(100, first=200):
            table = table_of(the_book)
            for f, row in madeup.askings(the_book):
                walled = [worth for g, its_row, worth in wall_of(the_book, f, row) if (g, its_row) == (f, row)]
                shown = [None] + [worth for g, its_row, worth, rank in paper_of(the_book, f, row)
                                  if (g, its_row) == (f, row)]
                self.assertEqual(walled, [table[(f, row)]])
                self.assertTrue(all(oracle.under(worth, walled[0]) for worth in shown))
                self.assertIn(walled[0], shown)

    def test_the_least_table_is_under_it(self):
        for the_book in madeup.books(60):
            table = table_of(the_book)
            for f, row in madeup.askings(the_book):
                for g, its_row, worth in wall_of(the_book, f, row):
                    self.assertTrue(oracle.under(table[(g, its_row)], worth))

    def test_no_asking(self):
        for f, worths in NO_ASKINGS:
            with self.assertRaises(NoAsking) as caught:
                wall_of(book(), f, worths)
            assert_only(self, caught.exception, NoAsking)

    def test_the_askers_own(self):
        the_book = book()
        assert_own_list(self, lambda: wall_of(the_book, "pile", ()))

    def test_asked_something_else_first(self):
        first, later = book(), book()
        worth_of(later, "odd", ("A",))
        wall_of(later, "loop", ())
        self.assertEqual(wall_of(first, "pile", ()), wall_of(later, "pile", ()))


class WallStandsTest(unittest.TestCase):
    def stands(self, wall, the_book=None):
        self.told(wall, True, the_book)

    def falls(self, wall, the_book=None):
        self.told(wall, False, the_book)

    def told(self, wall, answer, the_book):
        kept = list(wall)
        self.assertIs(wall_stands(the_book or book(), wall), answer, wall)
        self.assertEqual(wall, kept)

    def test_no_tuples(self):
        self.stands([])

    def test_in_any_order(self):
        for wall in (LOOP, PILE, EVEN, LOOP + PILE + EVEN):
            self.stands(wall)
            self.stands(wall[::-1])
            self.stands(wall[1:] + wall[:1])

    def test_told_twice(self):
        for wall in (LOOP, PILE, EVEN):
            self.falls(wall + wall)
            self.falls(wall + wall[-1:])
            self.falls(wall[:1] + wall)
        self.falls([("loop", (), None), ("loop", (), "NO")])

    def test_left_out(self):
        for wall in (PILE, EVEN):
            self.falls(wall[:-1])
            self.falls(wall[:1] + wall[2:])
        self.stands(EVEN[1:])
        self.stands(EVEN[2:])
        self.stands(PILE[1:])

    def test_another_worth(self):
        self.falls([("not", ("NO",), "NO")])
        self.falls([("not", ("NO",), None)])
        self.falls([("pile", (), ("NO", None)), ("not", ("NO",), "YES")])
        self.falls([("pile", (), ("NO", "NO")), ("not", ("NO",), "YES")])
        self.falls([("pile", (), None), ("not", (None,), None)])

    def test_a_greater_worth(self):
        self.stands([("loop", (), "NO")])
        self.stands([("loop", (), "YES")])
        self.stands([("not", (None,), "YES")])
        self.stands([("swap", (("NO", None),), ("YES", "NO"))])
        self.falls([("swap", (("NO", None),), ("YES", "YES"))])

    def test_of_another_kind(self):
        for worth in ("U", "A", "no", "", "MAYBE", ("NO", "NO"), ("YES",), ()):
            self.falls([("loop", (), worth)])
        for worth in ("NO", ("NO",), ("NO", "YES", None), ("U", None), (("NO", None), None)):
            self.falls([("pile", (), worth), ("not", ("NO",), "YES")])

    def test_what_is_no_asking(self):
        for f, worths in NO_ASKINGS:
            for worth in (None, "NO"):
                self.falls([(f, worths, worth)])
                self.falls(PILE + [(f, worths, worth)])

    def test_looked_up_where_no_use_is_made_of_it(self):
        spare = ("spare", (), "bit", ("one", pair(NO, ask("loop"))))
        unused = ("unused", (), "bit", let("x", "bit", ask("loop"), NO))
        argument = ("give", (), "bit", ask("const", ask("loop")))
        const = ("const", (("x", "bit"),), "bit", NO)
        the_book = Book(KINDS, [("loop", (), "bit", ask("loop")), spare, unused, argument, const])
        for f in ("spare", "unused"):
            self.falls([(f, (), "NO")], the_book)
            self.stands([(f, (), "NO"), ("loop", (), None)], the_book)
        self.falls([("give", (), "NO")], the_book)
        self.falls([("give", (), "NO"), ("const", (None,), "NO")], the_book)
        self.falls([("give", (), "NO"), ("loop", (), None)], the_book)
        self.falls([("give", (), "NO"), ("loop", (), None), ("const", ("NO",), "NO")], the_book)
        self.stands([("give", (), "NO"), ("loop", (), None), ("const", (None,), "NO")], the_book)
        self.stands([("give", (), "NO"), ("loop", (), "YES"), ("const", ("YES",), "NO")], the_book)

    def test_a_branch_that_is_not_taken(self):
        take = ("take", (("x", "bit"),), "bit", choose(name("x"), NO, ask("loop")))
        by = ("by", (), "bit", choose(ask("loop"), NO, ask("by")))
        the_book = Book(KINDS, [("loop", (), "bit", ask("loop")), take, by])
        self.stands([("take", ("NO",), "NO")], the_book)
        self.stands([("take", (None,), None)], the_book)
        self.falls([("take", ("YES",), None)], the_book)
        self.stands([("take", ("YES",), None), ("loop", (), None)], the_book)
        self.stands([("by", (), None), ("loop", (), None)], the_book)
        self.stands([("by", (), "NO"), ("loop", (), "NO")], the_book)
        self.falls([("by", (), "YES"), ("loop", (), "NO")], the_book)
        self.stands([("by", (), "YES"), ("loop", (), "YES")], the_book)

    def test_a_row_that_does_not_rise(self):
        f = ("f", (("x", "bit"),), "bit", ask("f", name("x")))
        use = ("use", (), "bit", let("x", "bit", ask("f", name("x")), YES))
        branch = ("branch", (("y", "bit"),), "bit", choose(name("y"), NO, let("x", "bit", ask("f", name("x")), YES)))
        the_book = Book(KINDS, [f, use, branch])
        every = [("f", (None,), None), ("f", ("NO",), None), ("f", ("YES",), None)]
        falling = [("f", (None,), "NO"), ("f", ("NO",), None)]
        ending = [("f", (None,), "NO"), ("f", ("NO",), "YES"), ("f", ("YES",), "YES")]
        comes_round = [("f", (None,), "NO"), ("f", ("NO",), "YES"), ("f", ("YES",), "NO")]
        for wall in (every, falling, ending, comes_round):
            self.stands(wall, the_book)
            self.told(wall + [("use", (), "YES")], wall == every, the_book)
            self.told(wall + [("branch", ("YES",), "YES")], wall == every, the_book)
            self.stands(wall + [("branch", ("NO",), "NO"), ("branch", (None,), None)], the_book)
        self.stands(every[:1] + [("use", (), "YES")], the_book)
        self.falls(every[1:] + [("use", (), "YES")], the_book)

    def test_made_up_walls(self):
        chance = random.Random(14)
        answers = {True: 0, False: 0}
        for the_book in madeup.books(120, first=700):
            for again in range(12):
                wall = made_up_wall(chance, the_book)
                answer = oracle.wall_is_right(the_book, wall)
                self.told(wall, answer, the_book)
                answers[answer] += 1
                if answer:
                    table = table_of(the_book)
                    self.assertTrue(all(oracle.under(table[(f, row)], worth) for f, row, worth in wall))
        self.assertGreater(min(answers.values()), 200)


def made_up_wall(chance, the_book):
    """The walls of some askings, with a few turns that may make them fall."""
    askings = madeup.askings(the_book)
    wall = {}
    for f, row in chance.choices(askings, k=2):
        wall.update({(g, its_row): worth for g, its_row, worth in wall_of(the_book, f, row)})
    for again in range(chance.randint(0, 3)):
        f, row = chance.choice(askings if chance.random() < 0.4 else list(wall))
        if chance.random() < 0.2 and len(wall) > 1:
            wall.pop((f, row), None)
        else:
            wall[(f, row)] = chance.choice(the_book.kinds().worths_of(the_book.kind_of(f)))
    told = [(f, row, worth) for (f, row), worth in wall.items()]
    chance.shuffle(told)
    return told


if __name__ == "__main__":
    unittest.main()
