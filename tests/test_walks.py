"""wantway.walks: [20], asked by want."""

import unittest

import countdown
import madeup
import wants
from helpers import assert_only, assert_own_list, born
from samples import KINDS, NO, NO_ASKINGS, U, YES, ask, book, choose, let, name, one, other, pair
from wantway.books import Book
from wantway.errors import NoAsking, NoMost
from wantway.tables import worth_of
from wantway.walks import asked
from wantway.worths import is_whole

NOT = ("not", (("x", "bit"),), "bit", choose(name("x"), YES, NO))
LOOP = ("loop", (), "bit", ask("loop"))
AND = ("and", (("x", "bit"), ("y", "bit")), "bit", choose(name("x"), NO, name("y")))


def book_of(kind, body, parameters=()):
    return Book(KINDS, [("f", parameters, kind, body), NOT, LOOP, AND])


class AskedTest(unittest.TestCase):
    def comes(self, kind, body, outcome, done, parameters=(), worths=(), most=500, whole=False):
        told = asked(book_of(kind, body, parameters), "f", worths, most, whole)
        self.assertEqual(told, (outcome, done))
        self.assertIs(type(told), tuple)
        self.assertIs(type(told[1]), list)

    def test_the_head_alone(self):
        self.comes("bit", NO, ("worth", "NO"), [((), None)])
        self.comes("bit", ask("not", NO), ("worth", "YES"), [(born(()), ()), ((), None)])
        self.comes("both", pair(NO, ask("loop")), ("worth", (None, None)), [((), None)])
        self.comes("deep", pair(U, pair(NO, NO)), ("worth", (None, None)), [((), None)])
        self.comes("both", name("p"), ("worth", (None, None)), [((), None)], (("p", "both"),), (("NO", "YES"),))

    def test_whole_is_false_where_it_is_not_told(self):
        self.assertEqual(asked(book_of("both", pair(NO, NO)), "f", (), 1), (("worth", (None, None)), [((), None)]))
        self.assertEqual(asked(book_of("both", pair(NO, NO)), "f", (), 1, whole=True)[0], ("worth", ("NO", "NO")))

    def test_the_whole_worth(self):
        self.comes("bit", NO, ("worth", "NO"), [((), None)], whole=True)
        self.comes("both", pair(NO, ask("not", NO)), ("worth", ("NO", "YES")),
                   [((), None), (born((1,)), None)], whole=True)
        body = pair(choose(ask("not", NO), U, U), pair(one(name("p")), ask("not", other(name("p")))))
        self.comes("deep", body, ("worth", ("U", ("NO", "NO"))), [
            ((), None), (born((0,), (0, 0)), born((0,))), (born((0,)), None),
            (born((1,)), None), (born((1,), (1, 0)), None),
            (born((1,), (1, 1, 0)), born((1,), (1, 1))), (born((1,), (1, 1)), None),
        ], (("p", "both"),), (("NO", "YES"),), whole=True)

    def test_the_whole_worth_of_what_is_given(self):
        self.comes("both", name("p"), ("worth", ("NO", "YES")), [((), None)],
                   (("p", "both"),), (("NO", "YES"),), whole=True)
        for worth, way in (((None, None), (0,)), (("NO", None), (1,)), ((None, "NO"), (0,))):
            self.comes("both", name("p"), ("never", 0, way), [((), None)], (("p", "both"),), (worth,), whole=True)
        self.comes("deep", pair(U, name("p")), ("never", 0, (1,)), [((), None)],
                   (("p", "both"),), (("NO", None),), whole=True)
        self.comes("deep", name("d"), ("never", 0, (1, 0)), [((), None)],
                   (("d", "deep"),), (("U", (None, None)),), whole=True)

    def test_what_comes_behind_the_head(self):
        self.comes("both", pair(NO, ask("loop")), ("dry",), [((), None)], whole=True, most=7)
        self.comes("both", pair(let("y", "bit", name("y"), name("y")), ask("loop")),
                   ("ring", [born((0,), (0, 0))]), [((), None)], whole=True)
        self.comes("both", pair(name("x"), ask("loop")), ("never", 0, ()), [((), None)],
                   (("x", "bit"),), (None,), whole=True)
        self.comes("both", pair(ask("not", NO), name("x")), ("never", 0, ()), [((), None), (born((0,)), None)],
                   (("x", "bit"),), (None,), whole=True)

    def test_never(self):
        parameters = (("x", "bit"), ("p", "both"))
        self.comes("bit", name("x"), ("never", 0, ()), [], parameters, (None, None))
        self.comes("bit", one(name("p")), ("never", 1, ()), [], parameters, ("NO", None))
        self.comes("bit", one(name("p")), ("never", 1, (0,)), [], parameters, ("NO", (None, "NO")))
        self.comes("bit", other(name("p")), ("never", 1, (1,)), [], parameters, ("NO", ("NO", None)))
        self.comes("bit", ask("not", ask("not", name("x"))), ("never", 0, ()), [], parameters, (None, None))
        # A thing that was given is told by its number in the asking, however far it was handed on.
        body = choose(ask("not", NO), NO, ask("and", YES, other(name("p"))))
        self.comes("bit", body, ("never", 1, (1,)), [(born((0,)), ())], parameters, ("NO", ("NO", None)))

    def test_what_is_not_wanted_is_not_done(self):
        self.comes("bit", ask("and", NO, ask("loop")), ("worth", "NO"), [(born(()), ()), ((), None)], most=2)
        self.comes("bit", one(pair(NO, ask("loop"))), ("worth", "NO"), [((), None)], most=1)
        self.comes("bit", let("y", "bit", ask("loop"), NO), ("worth", "NO"), [((), None)], most=1)
        self.comes("bit", choose(NO, NO, ask("loop")), ("worth", "NO"), [((), None)], most=1)
        self.comes("bit", ask("and", NO, name("x")), ("worth", "NO"), [(born(()), ()), ((), None)],
                   (("x", "bit"),), (None,))

    def test_what_is_shared_is_done_once(self):
        body = let("y", "bit", ask("not", NO), ask("and", name("y"), ask("and", name("y"), name("y"))))
        self.comes("bit", body, ("worth", "YES"), [
            (born((0,)), born((1,))), (born((1, 1)), born((1,))), (born((1,)), ()), ((), None),
        ])
        body = let("y", "both", pair(ask("not", NO), NO), choose(one(name("y")), NO, one(name("y"))))
        self.comes("bit", body, ("worth", "YES"), [
            (born((0,)), ()), (born((0,), (0, 0)), ()), ((), None),
        ])
        self.comes("both", let("y", "bit", ask("not", NO), pair(name("y"), name("y"))), ("worth", ("YES", "YES")),
                   [((), None), (born((0,)), None)], whole=True)

    def test_a_wanter_is_the_first(self):
        body = let("y", "bit", ask("not", NO), pair(ask("not", name("y")), name("y")))
        self.comes("both", body, ("worth", ("NO", "YES")), [
            ((), None), (born((0,)), born((1, 0))), (born((1, 0)), None),
        ], whole=True)
        body = let("y", "bit", ask("not", NO), pair(name("y"), ask("not", name("y"))))
        self.comes("both", body, ("worth", ("YES", "NO")), [
            ((), None), (born((0,)), None), (born((1, 1)), None),
        ], whole=True)

    def test_a_row_of_pairs_by_its_own_name(self):
        body = let("y", "both", pair(NO, ask("not", one(name("y")))), name("y"))
        self.comes("both", body, ("worth", ("NO", "YES")), [
            (born((0,)), ()), ((), None),
            (born((0,), (0, 1, 0)), born((0,), (0, 1))), (born((0,), (0, 1)), None),
        ], whole=True)


class RingTest(unittest.TestCase):
    def rings(self, kind, body, births, done=()):
        told = asked(book_of(kind, body), "f", (), 500)
        self.assertEqual(told, (("ring", births), list(done)))
        self.assertIs(type(told[0][1]), list)

    def test_of_one_cell(self):
        self.rings("bit", let("y", "bit", name("y"), name("y")), [born((0,))])
        self.rings("bit", let("y", "bit", ask("not", name("y")), name("y")), [born((0,))])
        self.rings("bit", let("y", "bit", choose(name("y"), NO, NO), choose(name("y"), NO, NO)), [born((0,))])

    def test_of_two_cells(self):
        body = let("y", "bit", choose(ask("not", name("y")), NO, NO), name("y"))
        self.rings("bit", body, [born((0,)), born((0,), (0, 0))])

    def test_of_three_cells(self):
        body = let("y", "bit", let("z", "bit", ask("not", name("y")), ask("not", name("z"))), name("y"))
        self.rings("bit", body, [born((0,)), born((0,), (0, 1)), born((0,), (0, 0))])

    def test_it_begins_with_the_one_under_way(self):
        # Wanted from afar, the ring leaves out what leads to it.
        ring = let("y", "bit", choose(ask("not", name("y")), NO, NO), name("y"))
        body = ask("and", ask("not", NO), ask("not", ring))
        self.rings("bit", body, [born((1, 0), (1, 0, 0)), born((1, 0), (1, 0, 0), (1, 0, 0, 0))],
                   [(born((0,)), born(()))])

    def test_the_asking_itself_is_in_no_ring(self):
        self.assertEqual(asked(book_of("bit", ask("f")), "f", (), 30), (("dry",), []))

    def test_a_ring_through_a_part(self):
        body = let("y", "both", pair(one(name("y")), NO), one(name("y")))
        self.rings("bit", body, [born((0,), (0, 0))], [(born((0,)), ())])


class MostTest(unittest.TestCase):
    BODY = ask("and", ask("not", NO), ask("not", ask("not", YES)))
    CELLS = 5

    def test_just_as_many_as_are_begun(self):
        the_book = book_of("bit", self.BODY)
        whole = asked(the_book, "f", (), 500)
        self.assertEqual(whole[0], ("worth", "YES"))
        self.assertEqual(len(whole[1]), self.CELLS)
        self.assertEqual(asked(the_book, "f", (), self.CELLS), whole)
        for most in range(1, self.CELLS):
            outcome, done = asked(the_book, "f", (), most)
            self.assertEqual(outcome, ("dry",))
            self.assertEqual(done, wants.walk(the_book, "f", (), most)[1])
            self.assertLess(len(done), most)

    def test_one(self):
        self.assertEqual(asked(book_of("bit", NO), "f", (), 1), (("worth", "NO"), [((), None)]))
        self.assertEqual(asked(book_of("bit", ask("not", NO)), "f", (), 1), (("dry",), []))

    def test_a_ring_ahead_of_the_last(self):
        body = let("y", "bit", name("y"), name("y"))
        self.assertEqual(asked(book_of("bit", body), "f", (), 2)[0], ("ring", [born((0,))]))
        self.assertEqual(asked(book_of("bit", body), "f", (), 1)[0], ("dry",))

    def test_no_most(self):
        for most in (0, -1, -500, 501, 2000, 10 ** 20):
            for whole in (False, True):
                with self.assertRaises(NoMost) as caught:
                    asked(book(), "not", ("NO",), most, whole)
                assert_only(self, caught.exception, NoMost)

    def test_no_asking_goes_ahead_of_no_most(self):
        for f, worths in NO_ASKINGS:
            for most in (7, 0, 501):
                with self.assertRaises(NoAsking) as caught:
                    asked(book(), f, worths, most)
                assert_only(self, caught.exception, NoAsking)


class DeepTest(unittest.TestCase):
    def depth(self, birth):
        count = 0
        while birth != ():
            birth, place = birth
            count += 1
        return count

    def test_dry_far_down(self):
        outcome, done = asked(book_of("bit", ask("loop")), "f", (), 500)
        self.assertEqual((outcome, done), (("dry",), []))

    def test_done_far_down(self):
        body = choose(ask("not", NO), NO, ask("f"))
        outcome, done = asked(book_of("bit", body), "f", (), 500)
        self.assertEqual(outcome, ("dry",))
        self.assertEqual([self.depth(birth) for birth, wanter in done], list(range(1, 251)))
        self.assertEqual([self.depth(wanter) for birth, wanter in done], list(range(250)))

    def test_a_worth_from_far_down(self):
        outcome, done = asked(countdown.book("xyz", "", ("tag", "D")), "f", ("D", "D", "D"), 500)
        self.assertEqual(outcome, ("worth", "D"))
        self.assertEqual([self.depth(birth) for birth, wanter in done], list(range(7 * 63, -1, -1)))

    def test_a_ring_far_down(self):
        # y's cell wants a countdown that comes to y at its end.
        down = ask("f", ("tag", "D"), ("tag", "D"), name("y"))
        more = [("go", (), "four", let("y", "four", down, name("y")))]
        outcome, done = asked(countdown.book("xy", "e", name("e"), more), "go", (), 500)
        self.assertEqual((outcome[0], done), ("ring", []))
        self.assertEqual([self.depth(birth) for birth in outcome[1]], list(range(1, 2 + 7 * 15)))


class MadeUpTest(unittest.TestCase):
    def test_by_a_second_reading(self):
        seen = {}
        for the_book in madeup.books(150):
            for f, row in madeup.askings(the_book)[::3]:
                for whole in (False, True):
                    for most in (40, 3):
                        outcome, done, way = wants.walk(the_book, f, row, most, whole)
                        self.assertEqual(asked(the_book, f, row, most, whole), (outcome, done))
                        seen[outcome[0]] = seen.get(outcome[0], 0) + 1
        self.assertEqual(sorted(seen), ["dry", "never", "ring", "worth"])
        self.assertGreater(min(seen.values()), 50)

    def test_the_least_table_tells_the_same(self):
        for the_book in [book()] + madeup.books(80, first=300):
            for f, row in madeup.askings(the_book):
                least = worth_of(the_book, f, row)
                head, done = asked(the_book, f, row, 100)
                whole, whole_done = asked(the_book, f, row, 100, True)
                self.assertEqual(whole_done[:len(done)], done)
                if head[0] == "worth":
                    self.assertIsNotNone(least)
                    self.assertEqual(head[1], (None, None) if isinstance(least, tuple) else least)
                elif head[0] != "dry":
                    self.assertIsNone(least)
                if whole[0] == "worth":
                    self.assertEqual(whole[1], least)
                elif whole[0] != "dry":
                    self.assertFalse(is_whole(least))

    def test_each_is_done_once(self):
        for the_book in madeup.books(40):
            for f, row in madeup.askings(the_book):
                outcome, done = asked(the_book, f, row, 40, True)
                births = [birth for birth, wanter in done]
                self.assertEqual(len(births), len(set(births)))
                for birth, wanter in done:
                    if wanter is not None and wanter in births:
                        self.assertLess(births.index(birth), births.index(wanter))


class OwnTest(unittest.TestCase):
    def test_the_askers_own(self):
        the_book = book()
        assert_own_list(self, lambda: asked(the_book, "even", ("C",), 50)[1])
        ring = book_of("bit", let("y", "bit", name("y"), name("y")))
        assert_own_list(self, lambda: asked(ring, "f", (), 50)[0][1])

    def test_asked_in_another_order(self):
        one_book, same = book(), book()
        asked(same, "odd", ("B",), 2)
        worth_of(same, "pile", ())
        asked(same, "pile", (), 50, True)
        for f, row in madeup.askings(one_book):
            self.assertEqual(asked(one_book, f, row, 50, True), asked(same, f, row, 50, True))


if __name__ == "__main__":
    unittest.main()
