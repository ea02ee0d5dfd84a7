"""wantway.counts: [23], asked by names."""

import unittest

import countdown
import madeup
import wants
from helpers import assert_only
from samples import KINDS, NO, NO_ASKINGS, U, YES, ask, book, choose, let, name, one, other, pair
from wantway.books import Book
from wantway.counts import by_names
from wantway.errors import NoAsking, NoMost
from wantway.tables import worth_of
from wantway.walks import asked

NOT = ("not", (("x", "bit"),), "bit", choose(name("x"), YES, NO))
LOOP = ("loop", (), "bit", ask("loop"))
AND = ("and", (("x", "bit"), ("y", "bit")), "bit", choose(name("x"), NO, name("y")))
BOTH = (("p", "both"),)


def book_of(kind, body, parameters=()):
    return Book(KINDS, [("f", parameters, kind, body), NOT, LOOP, AND])


class ByNamesTest(unittest.TestCase):
    def comes(self, kind, body, outcome, count, parameters=(), worths=(), most=2000, whole=False):
        told = by_names(book_of(kind, body, parameters), "f", worths, most, whole)
        self.assertEqual(told, (outcome, count))
        self.assertIs(type(told), tuple)
        self.assertIs(type(told[1]), int)

    def test_the_head_alone(self):
        self.comes("bit", NO, ("worth", "NO"), 1)
        self.comes("bit", ask("not", NO), ("worth", "YES"), 2)
        self.comes("bit", ask("not", ask("not", NO)), ("worth", "NO"), 3)
        self.comes("both", pair(NO, ask("loop")), ("worth", (None, None)), 1)
        self.comes("deep", pair(U, pair(NO, NO)), ("worth", (None, None)), 1)
        self.comes("both", name("p"), ("worth", (None, None)), 1, BOTH, (("NO", "YES"),))

    def test_whole_is_false_where_it_is_not_told(self):
        the_book = book_of("both", pair(NO, ask("not", NO)))
        self.assertEqual(by_names(the_book, "f", (), 9), (("worth", (None, None)), 1))
        self.assertEqual(by_names(the_book, "f", (), 9, whole=True), (("worth", ("NO", "YES")), 2))

    def test_the_whole_worth(self):
        self.comes("bit", NO, ("worth", "NO"), 1, whole=True)
        self.comes("both", pair(ask("not", NO), ask("not", YES)), ("worth", ("YES", "NO")), 3, whole=True)
        self.comes("deep", pair(U, pair(NO, ask("not", YES))), ("worth", ("U", ("NO", "NO"))), 3, whole=True)
        self.comes("both", name("p"), ("worth", ("NO", "YES")), 1, BOTH, (("NO", "YES"),), whole=True)

    def test_what_is_shared_is_gone_into_each_time(self):
        shared = ask("not", NO)
        self.comes("bit", let("y", "bit", shared, name("y")), ("worth", "YES"), 2)
        self.comes("bit", let("y", "bit", shared, choose(name("y"), NO, name("y"))), ("worth", "YES"), 3)
        self.comes("bit", let("y", "bit", shared, ask("and", name("y"), name("y"))), ("worth", "YES"), 4)
        self.comes("both", let("y", "bit", shared, pair(name("y"), name("y"))), ("worth", ("YES", "YES")), 3,
                   whole=True)
        # And each time what it wants is gone into anew with it.
        deep = let("y", "bit", ask("not", ask("not", NO)), ask("and", name("y"), NO))
        self.comes("bit", deep, ("worth", "NO"), 4)
        deep = let("y", "bit", ask("not", ask("not", YES)), ask("and", name("y"), ask("and", name("y"), name("y"))))
        self.comes("bit", deep, ("worth", "YES"), 3 + 3 * 2)

    def test_the_parts_of_what_is_shared(self):
        both = let("y", "both", pair(ask("not", NO), NO), choose(one(name("y")), NO, one(name("y"))))
        self.comes("bit", both, ("worth", "YES"), 5)

    def test_never(self):
        self.comes("bit", name("x"), ("never", 0, ()), 1, (("x", "bit"),), (None,))
        self.comes("bit", ask("not", ask("not", name("x"))), ("never", 0, ()), 3, (("x", "bit"),), (None,))
        self.comes("bit", other(name("p")), ("never", 0, (1,)), 1, BOTH, (("NO", None),))
        self.comes("both", name("p"), ("never", 0, (1,)), 1, BOTH, (("NO", None),), whole=True)
        self.comes("both", pair(ask("not", NO), one(name("p"))), ("never", 0, (0,)), 3, BOTH, ((None, "NO"),),
                   whole=True)

    def test_what_is_not_wanted_is_not_gone_into(self):
        self.comes("bit", ask("and", NO, ask("loop")), ("worth", "NO"), 2, most=2)
        self.comes("bit", let("y", "bit", ask("loop"), NO), ("worth", "NO"), 1, most=1)

    def test_rings_come_to_dry(self):
        for most in (1, 2, 7, 2000):
            self.comes("bit", let("y", "bit", name("y"), name("y")), ("dry",), most, most=most)
            self.comes("bit", let("y", "bit", choose(ask("not", name("y")), NO, NO), name("y")), ("dry",), most,
                       most=most)
            self.comes("bit", ask("loop"), ("dry",), most, most=most)
            self.comes("bit", ask("f"), ("dry",), most, most=most)


class MostTest(unittest.TestCase):
    BODY = let("y", "bit", ask("not", NO), ask("and", name("y"), ask("and", name("y"), name("y"))))
    GOINGS = 6

    def test_just_as_many_as_there_are(self):
        the_book = book_of("bit", self.BODY)
        for most in (self.GOINGS, self.GOINGS + 1, 2000):
            self.assertEqual(by_names(the_book, "f", (), most), (("worth", "YES"), self.GOINGS))
        for most in range(1, self.GOINGS):
            self.assertEqual(by_names(the_book, "f", (), most), (("dry",), most))

    def test_behind_the_head(self):
        the_book = book_of("both", pair(NO, ask("not", NO)))
        self.assertEqual(by_names(the_book, "f", (), 1, True), (("dry",), 1))
        self.assertEqual(by_names(the_book, "f", (), 2, True), (("worth", ("NO", "YES")), 2))

    def test_one(self):
        self.assertEqual(by_names(book_of("bit", NO), "f", (), 1), (("worth", "NO"), 1))
        self.assertEqual(by_names(book_of("bit", ask("not", NO)), "f", (), 1), (("dry",), 1))

    def test_no_most(self):
        for most in (0, -1, -2000, 2001, 10 ** 20):
            for whole in (False, True):
                with self.assertRaises(NoMost) as caught:
                    by_names(book(), "not", ("NO",), most, whole)
                assert_only(self, caught.exception, NoMost)

    def test_no_asking_goes_ahead_of_no_most(self):
        for f, worths in NO_ASKINGS:
            for most in (7, 0, 2001):
                with self.assertRaises(NoAsking) as caught:
                    by_names(book(), f, worths, most)
                assert_only(self, caught.exception, NoAsking)


class DeepTest(unittest.TestCase):
    def test_two_thousand_within_one_another(self):
        self.assertEqual(by_names(book_of("bit", ask("loop")), "f", (), 2000), (("dry",), 2000))
        # Each of these is made in the going of the one that wants it.
        body = one(pair(ask("f"), NO))
        self.assertEqual(by_names(book_of("bit", body), "f", (), 2000), (("dry",), 2000))
        body = choose(ask("not", NO), NO, ask("f"))
        self.assertEqual(by_names(book_of("bit", body), "f", (), 2000), (("dry",), 2000))

    def test_a_worth_from_far_down(self):
        # One more definition that each step leads through makes these goings twice as deep as by want they may be.
        far = countdown.book_by_two_steps("xyz", ("tag", "D"))
        goings = 1 + 13 * 63
        self.assertEqual(by_names(far, "f", ("D", "D", "D"), 2000), (("worth", "D"), goings))
        self.assertEqual(by_names(far, "f", ("D", "D", "D"), goings), (("worth", "D"), goings))
        self.assertEqual(by_names(far, "f", ("D", "D", "D"), goings - 1), (("dry",), goings - 1))
        self.assertEqual(asked(far, "f", ("D", "D", "D"), 500)[0], ("dry",))

    def test_never_far_down(self):
        far = countdown.book_by_two_steps("xyz", ("tag", "D"))
        self.assertEqual(by_names(far, "f", ("D", "D", None), 2000), (("never", 2, ()), 1))
        book_to_e = countdown.book("xy", "e", name("e"))
        self.assertEqual(by_names(book_to_e, "f", ("D", "D", None), 2000), (("never", 2, ()), 1 + 7 * 15))
        self.assertEqual(by_names(book_to_e, "f", ("D", "D", "B"), 2000), (("worth", "B"), 1 + 7 * 15))


class MadeUpTest(unittest.TestCase):
    def test_by_a_second_reading(self):
        seen = {}
        for the_book in madeup.books(150, first=600):
            for f, row in madeup.askings(the_book)[::3]:
                for whole in (False, True):
                    for most in (60, 4):
                        told = by_names(the_book, f, row, most, whole)
                        self.assertEqual(told, wants.by_names(the_book, f, row, most, whole))
                        seen[told[0][0]] = seen.get(told[0][0], 0) + 1
        self.assertEqual(sorted(seen), ["dry", "never", "worth"])
        self.assertGreater(min(seen.values()), 50)

    def test_beside_want_and_the_least_table(self):
        counts = []
        for the_book in [book()] + madeup.books(100, first=900):
            for f, row in madeup.askings(the_book)[::2]:
                for whole in (False, True):
                    outcome, count = by_names(the_book, f, row, 100, whole)
                    wanted, done = asked(the_book, f, row, 100, whole)
                    if outcome[0] == "dry":
                        self.assertEqual(count, 100)
                        continue
                    self.assertEqual(outcome, wanted)
                    self.assertGreaterEqual(count, len(done))
                    counts.append((count, len(done)))
                    if whole and outcome[0] == "worth":
                        self.assertEqual(outcome[1], worth_of(the_book, f, row))
        # What is shared is there, or these would say nothing.
        self.assertGreater(len([1 for count, done in counts if count > done]), 20)


class OwnTest(unittest.TestCase):
    def test_asked_in_another_order(self):
        one_book, same = book(), book()
        asked(same, "pile", (), 50, True)
        by_names(same, "pile", (), 3, True)
        worth_of(same, "odd", ("B",))
        for f, row in madeup.askings(one_book):
            told = by_names(one_book, f, row, 50, True)
            self.assertEqual(told, by_names(same, f, row, 50, True))
            self.assertEqual(told, by_names(one_book, f, row, 50, True))


if __name__ == "__main__":
    unittest.main()
