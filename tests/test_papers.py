"""wantway.papers: [13], papers that show that a worth comes."""

import random
import unittest

import madeup
import oracle
from helpers import assert_only, assert_own_list
from samples import KINDS, NO, NO_ASKINGS, YES, ask, book, choose, let, name, pair
from wantway.books import Book
from wantway.errors import NoAsking
from wantway.papers import is_paper, paper_of
from wantway.tables import round_of, table_of, worth_of

PILE = [("pile", (), ("NO", None), 1), ("not", ("NO",), "YES", 1), ("pile", (), ("NO", "YES"), 2)]
EVEN = [("odd", ("A",), "NO", 1), ("even", ("B",), "NO", 2), ("odd", ("C",), "NO", 3)]


class PaperOfTest(unittest.TestCase):
    def test_the_paper_of_each_asking(self):
        for the_book in [book()] + madeup.books(150):
            for f, row in madeup.askings(the_book):
                paper = paper_of(the_book, f, row)
                worth = worth_of(the_book, f, row)
                self.assertIs(is_paper(the_book, paper), True)
                self.assertTrue(oracle.paper_is_right(the_book, paper))
                told = [its_worth for g, its_row, its_worth, rank in paper if (g, its_row) == (f, row)]
                self.assertEqual(worth in told, worth is not None)
                self.assertEqual(paper == [], worth is None)

    def test_tuples(self):
        paper = paper_of(book(), "pile", ())
        self.assertIs(type(paper), list)
        self.assertEqual(sorted(paper, key=repr), sorted(PILE, key=repr))

    def test_of_nothing_it_is_empty(self):
        self.assertEqual(paper_of(book(), "loop", ()), [])
        self.assertEqual(paper_of(book(), "not", (None,)), [])

    def test_it_tells_nothing_beyond_the_least_table(self):
        for the_book in madeup.books(60):
            table = table_of(the_book)
            for f, row in madeup.askings(the_book):
                for g, its_row, worth, rank in paper_of(the_book, f, row):
                    self.assertTrue(oracle.under(worth, table[(g, its_row)]))

    def test_no_asking(self):
        for f, worths in NO_ASKINGS:
            with self.assertRaises(NoAsking) as caught:
                paper_of(book(), f, worths)
            assert_only(self, caught.exception, NoAsking)

    def test_the_askers_own(self):
        the_book = book()
        assert_own_list(self, lambda: paper_of(the_book, "pile", ()))
        assert_own_list(self, lambda: paper_of(the_book, "loop", ()))

    def test_asked_something_else_first(self):
        first, later = book(), book()
        round_of(later, "even", ("C",))
        paper_of(later, "odd", ("C",))
        self.assertEqual(paper_of(first, "pile", ()), paper_of(later, "pile", ()))


class IsPaperTest(unittest.TestCase):
    def right(self, paper, the_book=None):
        self.told(paper, True, the_book)

    def wrong(self, paper, the_book=None):
        self.told(paper, False, the_book)

    def told(self, paper, answer, the_book):
        kept = list(paper)
        self.assertIs(is_paper(the_book or book(), paper), answer, paper)
        self.assertEqual(paper, kept)

    def test_no_tuples(self):
        self.right([])

    def test_in_any_order_and_told_twice(self):
        for paper in (PILE, EVEN, PILE + EVEN):
            self.right(paper)
            self.right(paper[::-1])
            self.right(paper[1:] + paper[:1])
            self.right(paper + paper)
            self.right(paper + paper[::-1])

    def test_left_out(self):
        self.wrong(PILE[1:])
        self.wrong(PILE[:1] + PILE[2:])
        self.right(PILE[:2])
        self.wrong(EVEN[1:])
        self.wrong(EVEN[:1] + EVEN[2:])

    def test_ranks(self):
        self.right([("not", ("NO",), "YES", 1)])
        self.right([("not", ("NO",), "YES", 10 ** 20)])
        self.wrong([("not", ("NO",), "YES", 0)])
        self.wrong([("not", ("NO",), "YES", -1)])
        self.wrong([("not", ("NO",), None, 0)])
        # A worth is shown by lesser ranks alone.
        self.wrong([("odd", ("A",), "NO", 2), ("even", ("B",), "NO", 2)])
        self.wrong([("odd", ("A",), "NO", 3), ("even", ("B",), "NO", 2)])
        self.right([("odd", ("A",), "NO", 5), ("even", ("B",), "NO", 70)])
        self.wrong([("loop", (), "NO", 1)])
        self.wrong([("loop", (), "NO", 1), ("loop", (), "NO", 2)])
        self.wrong([("odd", ("A",), "NO", 0), ("even", ("B",), "NO", 1)])

    def test_another_worth(self):
        self.wrong([("not", ("NO",), "NO", 1)])
        self.wrong([("even", ("A",), "NO", 1)])
        self.wrong([("pile", (), ("NO", "YES"), 1)])
        self.wrong([("pile", (), ("YES", None), 1)])

    def test_a_lesser_worth(self):
        self.right([("not", ("NO",), None, 1)])
        self.right([("not", (None,), None, 1)])
        self.right([("loop", (), None, 4)])
        self.right([("pile", (), (None, None), 1)])
        self.right([("swap", (("NO", "YES"),), (None, "NO"), 1)])
        self.wrong([("pile", (), (None, None), 1), ("not", ("NO",), "YES", 1), ("pile", (), ("NO", "YES"), 2)])

    def test_worths_of_one_asking_are_joined(self):
        kinds = KINDS
        swap = ("swap", (("p", "both"),), "both", pair(("other", name("p")), ("one", name("p"))))
        use = ("use", (), "both", ask("swap", pair(NO, YES)))
        the_book = Book(kinds, [swap, use])
        row = (("NO", "YES"),)
        parts = [("swap", row, ("YES", None), 1), ("swap", row, (None, "NO"), 2), ("use", (), ("YES", "NO"), 3)]
        self.right(parts, the_book)
        self.right(parts[::-1], the_book)
        self.wrong(parts[1:], the_book)
        self.wrong(parts[::2], the_book)
        self.wrong([parts[0], parts[1], ("use", (), ("YES", "NO"), 2)], the_book)

    def test_of_another_kind(self):
        for worth in ("U", "A", "no", "", "MAYBE", ("NO", "NO"), ("YES",), ()):
            self.wrong([("not", ("NO",), worth, 1)])
        for worth in ("NO", ("NO",), ("NO", None, None), ("U", None), (("NO", None), None)):
            self.wrong([("pile", (), worth, 1)])

    def test_what_is_no_asking(self):
        for f, worths in NO_ASKINGS:
            self.wrong([(f, worths, None, 1)])
            self.wrong(PILE + [(f, worths, None, 1)])
            self.wrong([(f, worths, None, 9)] + PILE)

    def test_worths_that_clash(self):
        self.wrong([("not", ("NO",), "YES", 1), ("not", ("NO",), "NO", 1)])
        self.wrong([("not", ("NO",), "YES", 1), ("not", ("NO",), "NO", 2)])
        self.wrong([("not", ("NO",), "NO", 1), ("not", ("NO",), "YES", 2), ("pile", (), ("NO", None), 3)])
        self.wrong(PILE + [("pile", (), ("YES", None), 1), ("pile", (), (None, None), 3)])

    def test_a_row_that_does_not_rise(self):
        # By f at None alone the row of x is None, NO, None; by both it is None, NO, NO.
        use = ("use", (), "bit", let("x", "bit", ask("f", name("x")), YES))
        the_book = Book(KINDS, [("f", (("x", "bit"),), "bit", NO), use])
        self.right([("use", (), "YES", 1)], the_book)
        self.wrong([("f", (None,), "NO", 1), ("use", (), "YES", 2)], the_book)
        self.wrong([("f", (None,), "NO", 1), ("use", (), None, 2)], the_book)
        self.right([("f", (None,), "NO", 2), ("use", (), "YES", 2)], the_book)
        self.right([("f", (None,), "NO", 1), ("f", ("NO",), "NO", 1), ("use", (), "YES", 2)], the_book)

    def test_such_a_row_in_a_branch(self):
        falls = let("x", "bit", ask("f", name("x")), YES)
        use = ("use", (("y", "bit"),), "bit", choose(name("y"), NO, falls))
        hidden = ("hide", (), "bit", ("one", pair(NO, falls)))
        the_book = Book(KINDS, [("f", (("x", "bit"),), "bit", NO), use, hidden])
        told = [("f", (None,), "NO", 1)]
        self.right(told + [("use", ("NO",), "NO", 2)], the_book)
        self.right(told + [("use", (None,), None, 2)], the_book)
        self.wrong(told + [("use", ("YES",), "YES", 2)], the_book)
        self.wrong(told + [("hide", (), "NO", 2)], the_book)

    def test_made_up_papers(self):
        chance = random.Random(13)
        answers = {True: 0, False: 0}
        for the_book in madeup.books(120, first=500):
            for again in range(12):
                paper = made_up_paper(chance, the_book)
                answer = oracle.paper_is_right(the_book, paper)
                self.told(paper, answer, the_book)
                answers[answer] += 1
        self.assertGreater(min(answers.values()), 200)


def made_up_paper(chance, the_book):
    """Right papers of some askings, with a few turns that may make them wrong."""
    askings = madeup.askings(the_book)
    paper = []
    for f, row in chance.choices(askings, k=2):
        paper.extend(paper_of(the_book, f, row))
    for again in range(chance.randint(0, 3)):
        f, row = chance.choice(askings)
        worth = chance.choice(the_book.kinds().worths_of(the_book.kind_of(f)))
        turn = chance.randint(0, 2)
        if turn == 0 or not paper:
            paper.append((f, row, worth, chance.randint(0, 4)))
        elif turn == 1:
            paper.remove(chance.choice(paper))
        else:
            at = chance.randrange(len(paper))
            paper[at] = paper[at][:3] + (chance.randint(1, 4),)
    chance.shuffle(paper)
    return paper


if __name__ == "__main__":
    unittest.main()
