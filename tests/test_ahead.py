"""wantway.ahead: [24], asked by want with what is needed done ahead."""

import random
import unittest

import countdown
import madeup
import wants
from helpers import assert_only, assert_own_list, born
from samples import KINDS, NO, NO_ASKINGS, U, YES, ask, book, choose, let, name, one, other, pair
from wantway.ahead import ahead
from wantway.books import Book
from wantway.errors import NoAsking, NoMost, NoNote, NoPart
from wantway.needs import is_needed
from wantway.walks import asked

NOT = ("not", (("x", "bit"),), "bit", choose(name("x"), YES, NO))
LOOP = ("loop", (), "bit", ask("loop"))
# Both of these need both parameters, the second one's head last.
AND = ("and", (("x", "bit"), ("y", "bit")), "bit", choose(name("x"), choose(name("y"), NO, NO), name("y")))
FIRST = ("first", (("p", "both"),), "bit", choose(one(name("p")), other(name("p")), other(name("p"))))
LEAN = ("lean", (("x", "bit"), ("y", "bit")), "bit", choose(name("x"), NO, name("y")))
FAR = ("far", (("d", "deep"),), "bit", one(other(name("d"))))
NEEDY = [AND, FIRST, ("both", (("x", "bit"), ("y", "bit")), "both", pair(choose(name("x"), NO, YES), name("y"))),
         ("keen", (("x", "bit"), ("p", "both")), "both", choose(one(name("p")), choose(name("x"), name("p"), name("p")),
                                                                name("p")))]
Y_AHEAD = ("and", 1, ())


def book_of(kind, body, parameters=()):
    return Book(KINDS, [("f", parameters, kind, body), NOT, LOOP, AND, FIRST, LEAN, FAR])


class AheadTest(unittest.TestCase):
    def comes(self, kind, body, notes, outcome, done, parameters=(), worths=(), most=500, whole=False):
        told = ahead(book_of(kind, body, parameters), "f", worths, notes, most, whole)
        self.assertEqual(told, (outcome, done))
        self.assertIs(type(told), tuple)
        self.assertIs(type(told[1]), list)

    def test_no_notes(self):
        for the_book in [book()] + madeup.books(40, first=50):
            for f, row in madeup.askings(the_book)[::2]:
                for whole in (False, True):
                    self.assertEqual(ahead(the_book, f, row, [], 30, whole), asked(the_book, f, row, 30, whole))

    def test_one_note(self):
        body = ask("and", ask("not", NO), ask("not", YES))
        x, y = born((0,)), born((1,))
        self.comes("bit", body, [], ("worth", "NO"), [(x, born(())), (y, born(())), (born(()), ()), ((), None)])
        self.comes("bit", body, [Y_AHEAD], ("worth", "NO"),
                   [(y, born(())), (x, born(())), (born(()), ()), ((), None)])
        self.comes("bit", body, [("and", 0, ())], ("worth", "NO"),
                   [(x, born(())), (y, born(())), (born(()), ()), ((), None)])

    def test_several_notes_in_their_order(self):
        body = ask("and", ask("not", NO), ask("not", ask("not", NO)))
        x, y, z = born((0,)), born((1,)), born((1, 0))
        last = [(born(()), ()), ((), None)]
        self.comes("bit", body, [("and", 0, ()), Y_AHEAD], ("worth", "NO"),
                   [(x, born(())), (z, y), (y, born(()))] + last)
        self.comes("bit", body, [Y_AHEAD, ("and", 0, ())], ("worth", "NO"),
                   [(z, y), (y, born(())), (x, born(()))] + last)
        self.comes("bit", body, [("not", 0, ()), Y_AHEAD, ("first", 0, (1,)), ("and", 0, ())], ("worth", "NO"),
                   [(z, y), (y, born(())), (x, born(()))] + last)

    def test_ways_into_pairs_step_by_step(self):
        body = ask("first", pair(ask("not", NO), ask("not", YES)))
        p = born((0,))
        x, y = born((0,), (0, 0)), born((0,), (0, 1))
        last = [(born(()), ()), ((), None)]
        self.comes("bit", body, [], ("worth", "NO"), [(p, born(())), (x, born(())), (y, born(()))] + last)
        self.comes("bit", body, [("first", 0, (1,))], ("worth", "NO"),
                   [(p, born(())), (y, born(())), (x, born(()))] + last)
        self.comes("bit", body, [("first", 0, ())], ("worth", "NO"),
                   [(p, born(())), (x, born(())), (y, born(()))] + last)
        body = ask("far", pair(U, pair(ask("not", NO), ask("loop"))))
        d, q = born((0,)), born((0,), (0, 1))
        self.comes("bit", body, [("far", 0, (1, 0))], ("worth", "YES"), [
            (d, born(())), (q, born(())), (born((0,), (0, 1), (0, 1, 0)), born(())),
        ] + last)
        self.comes("bit", body, [("far", 0, (1, 0)), ("far", 0, (1,)), ("far", 0, ())], ("worth", "YES"), [
            (d, born(())), (q, born(())), (born((0,), (0, 1), (0, 1, 0)), born(())),
        ] + last)

    def test_the_asking_itself(self):
        twice = (("x", "bit"), ("y", "bit"))
        body = choose(name("x"), choose(name("y"), NO, NO), name("y"))
        self.comes("bit", body, [], ("never", 0, ()), [], twice, (None, None))
        self.comes("bit", body, [("f", 1, ())], ("never", 1, ()), [], twice, (None, None))
        self.comes("bit", body, [("f", 1, ())], ("worth", "YES"), [((), None)], twice, ("YES", "YES"))
        self.comes("bit", body, [("f", 1, ())], ("never", 0, ()), [], twice, (None, "NO"))
        both = (("p", "both"),)
        self.comes("bit", ask("first", name("p")), [("f", 0, (1,))], ("never", 0, (1,)), [], both, ((None, None),))
        self.comes("bit", ask("first", name("p")), [("f", 0, (1,))], ("never", 0, ()), [], both, (None,))
        self.comes("bit", ask("first", name("p")), [("first", 0, (1,))], ("never", 0, (1,)), [], both, ((None, None),))
        self.comes("bit", ask("first", name("p")), [], ("never", 0, (0,)), [], both, ((None, None),))

    def test_a_part_that_is_a_tag_or_given(self):
        self.comes("bit", ask("first", pair(NO, YES)), [("first", 0, (1,))], ("worth", "YES"),
                   [(born((0,)), born(())), (born(()), ()), ((), None)])
        self.comes("bit", ask("first", name("p")), [("first", 0, (1,)), ("first", 0, (0,))], ("worth", "YES"),
                   [(born(()), ()), ((), None)], (("p", "both"),), (("NO", "YES"),))
        self.comes("bit", ask("not", NO), [("not", 0, ())], ("worth", "YES"), [(born(()), ()), ((), None)])

    def test_definitions_that_are_never_asked(self):
        notes = [("first", 0, ()), ("far", 0, (1,)), ("lean", 0, ())]
        self.comes("bit", ask("not", ask("not", NO)), notes, ("worth", "NO"),
                   [(born((0,)), born(())), (born(()), ()), ((), None)])
        # What never comes is all needed, and not wanted where it isn't asked.
        loops = Book(KINDS, [("f", (), "bit", NO), ("g", (("x", "bit"),), "bit", ask("g", name("x")))])
        self.assertEqual(ahead(loops, "f", (), [("g", 0, ())], 1), (("worth", "NO"), [((), None)]))
        self.assertEqual(ahead(loops, "g", (None,), [("g", 0, ())], 5), (("never", 0, ()), []))
        self.assertEqual(ahead(loops, "g", ("NO",), [("g", 0, ())], 5), (("dry",), []))

    def test_cells_that_are_no_askings_want_nothing_ahead(self):
        # The pair and its parts are made in the going of f, but they are no cells of an asking of f.
        body = pair(choose(name("x"), NO, NO), choose(name("y"), choose(name("x"), NO, NO), NO))
        the_book = Book(KINDS, [("f", (("x", "bit"), ("y", "bit")), "bit", one(body))])
        self.assertEqual(ahead(the_book, "f", ("NO", None), [("f", 0, ())], 50),
                         (("worth", "NO"), [(born((0, 0)), ()), ((), None)]))

    def test_the_whole_worth(self):
        body = pair(ask("and", ask("not", NO), ask("not", NO)), NO)
        a, x, y = born((0,)), born((0, 0)), born((0, 1))
        self.comes("both", body, [Y_AHEAD], ("worth", (None, None)), [((), None)])
        self.comes("both", body, [Y_AHEAD], ("worth", ("YES", "NO")), [((), None), (y, a), (x, a), (a, None)],
                   whole=True)

    def test_whole_is_false_where_it_is_not_told(self):
        the_book = book_of("both", pair(NO, NO))
        self.assertEqual(ahead(the_book, "f", (), [Y_AHEAD], 5), (("worth", (None, None)), [((), None)]))
        self.assertEqual(ahead(the_book, "f", (), [Y_AHEAD], 5, whole=True)[0], ("worth", ("NO", "NO")))

    def test_none_is_told_where_by_want_there_is_none(self):
        body = ask("and", ask("loop"), let("z", "bit", name("z"), name("z")))
        self.comes("bit", body, [], ("dry",), [], most=9)
        self.comes("bit", body, [Y_AHEAD], ("ring", [born((1,), (1, 0))]), [], most=9)
        body = let("z", "bit", ask("and", ask("not", NO), name("z")), name("z"))
        self.comes("bit", body, [], ("ring", [born((0,))]), [(born((0, 0)), born((0,)))])
        self.comes("bit", body, [Y_AHEAD], ("ring", [born((0,))]), [])

    def test_most(self):
        body = ask("and", ask("not", NO), ask("not", YES))
        self.assertEqual(len(asked(book_of("bit", body), "f", (), 500)[1]), 4)
        self.comes("bit", body, [Y_AHEAD], ("worth", "NO"),
                   [(born((1,)), born(())), (born((0,)), born(())), (born(()), ()), ((), None)], most=4)
        self.comes("bit", body, [Y_AHEAD], ("dry",), [(born((1,)), born(()))], most=3)
        self.comes("bit", body, [Y_AHEAD], ("dry",), [], most=1)

    def test_far_down(self):
        deep = countdown.book("xyz", "", ("tag", "D"))
        notes = [("step", 2, ()), ("f", 1, ()), ("step", 0, ())]
        self.assertEqual([is_needed(deep, f, i, way) for f, i, way in notes], [True] * 3)
        outcome, done = ahead(deep, "f", ("D", "D", "D"), notes, 500)
        self.assertEqual(outcome, ("worth", "D"))
        self.assertEqual(len(done), 1 + 7 * 63)


class NotesTest(unittest.TestCase):
    def refused(self, notes, number, f="not", worths=("NO",), most=50):
        with self.assertRaises(NoNote) as caught:
            ahead(book_of("bit", NO), f, worths, notes, most)
        assert_only(self, caught.exception, NoNote)
        self.assertEqual(caught.exception.number, number)

    def test_what_is_not_needed(self):
        self.refused([("lean", 1, ())], 0)
        self.refused([("far", 0, (0,))], 0)
        self.refused([("far", 0, (1, 1))], 0)
        self.refused([("lean", 0, ()), Y_AHEAD, ("lean", 1, ())], 2)

    def test_no_definition(self):
        for f in ("none", "", "NOT", "x", "bit"):
            self.refused([(f, 0, ())], 0)
            self.refused([Y_AHEAD, (f, 0, ())], 1)

    def test_no_parameter(self):
        for i in (1, 2, -1, -2, 10 ** 20):
            self.refused([("not", i, ())], 0)
        self.refused([("f", 0, ())], 0)
        self.refused([("loop", 0, ())], 0)

    def test_no_part(self):
        self.refused([("not", 0, (0,))], 0)
        self.refused([("first", 0, (0, 0))], 0)
        self.refused([("far", 0, (0, 1))], 0)
        self.refused([("far", 0, (1, 0, 0))], 0)

    def test_twice(self):
        self.refused([Y_AHEAD, Y_AHEAD], 1)
        self.refused([Y_AHEAD, ("and", 0, ()), ("first", 0, (1,)), ("and", 1, ())], 3)
        self.refused([("first", 0, (1,)), ("first", 0, ()), ("first", 0, (0,)), ("first", 0, (1,))], 3)

    def test_the_first_one(self):
        self.refused([Y_AHEAD, Y_AHEAD, ("none", 0, ())], 1)
        self.refused([Y_AHEAD, ("none", 0, ()), Y_AHEAD], 1)
        self.refused([("lean", 1, ()), ("lean", 1, ())], 0)

    def test_ahead_of_no_most(self):
        for most in (0, -5, 501):
            self.refused([("none", 0, ())], 0, most=most)

    def test_behind_no_asking(self):
        for f, worths in NO_ASKINGS:
            for notes in ([], [("none", 0, ())], [("not", 0, ())]):
                for most in (7, 0, 501):
                    with self.assertRaises(NoAsking) as caught:
                        ahead(book(), f, worths, notes, most)
                    assert_only(self, caught.exception, NoAsking)

    def test_no_most(self):
        for most in (0, -1, 501, 2000, 10 ** 20):
            for notes in ([], [("not", 0, ())]):
                with self.assertRaises(NoMost) as caught:
                    ahead(book(), "not", ("NO",), notes, most)
                assert_only(self, caught.exception, NoMost)


def all_notes(the_book):
    """All notes of a book, found by trying ways up to two steps deep."""
    found = []
    for f in the_book.names():
        for i in range(len(the_book.parameters(f))):
            for way in [(), (0,), (1,), (0, 0), (0, 1), (1, 0), (1, 1)]:
                try:
                    if is_needed(the_book, f, i, way):
                        found.append((f, i, way))
                except NoPart:
                    pass
    return found


class MadeUpTest(unittest.TestCase):
    def test_by_a_second_reading(self):
        chance = random.Random(24)
        seen, turned = {}, 0
        for the_book in madeup.books(150, first=1200):
            notes = all_notes(the_book)
            for f, row in madeup.askings(the_book)[::3]:
                some = chance.sample(notes, chance.randint(0, len(notes)))
                for whole in (False, True):
                    told = ahead(the_book, f, row, some, 30, whole)
                    outcome, done, way = wants.walk(the_book, f, row, 30, whole, some)
                    self.assertEqual(told, (outcome, done))
                    seen[outcome[0]] = seen.get(outcome[0], 0) + 1
                    turned += told != asked(the_book, f, row, 30, whole)
        self.assertEqual(sorted(seen), ["dry", "never", "ring", "worth"])
        self.assertGreater(min(seen.values()), 20)
        self.assertGreater(turned, 50)

    def test_the_same_worth_and_the_same_cells(self):
        chance = random.Random(42)
        other_orders = 0
        for seed in range(150):
            the_book = madeup.book_with(seed, KINDS[1:2] + KINDS[3:4], NEEDY)
            notes = all_notes(the_book)
            for f, row in madeup.askings(the_book)[::5]:
                chance.shuffle(notes)
                for whole in (False, True):
                    outcome, done = ahead(the_book, f, row, notes, 60, whole)
                    wanted, wanted_done = asked(the_book, f, row, 60, whole)
                    if wanted[0] != "worth":
                        self.assertNotEqual(outcome[0], "worth")
                        continue
                    self.assertEqual(outcome, wanted)
                    births = [birth for birth, wanter in done]
                    self.assertEqual(len(births), len(set(births)))
                    self.assertEqual(set(births), {birth for birth, wanter in wanted_done})
                    other_orders += births != [birth for birth, wanter in wanted_done]
        self.assertGreater(other_orders, 5)


class OwnTest(unittest.TestCase):
    def test_what_is_handed_in_stays(self):
        notes = [Y_AHEAD, ("first", 0, (1,)), ("not", 0, ())]
        kept = list(notes)
        the_book = book_of("bit", ask("and", ask("not", NO), ask("not", YES)))
        first = ahead(the_book, "f", (), notes, 50)
        self.assertEqual(notes, kept)
        self.assertEqual(ahead(the_book, "f", (), notes, 50), first)
        wrong = notes + [Y_AHEAD]
        with self.assertRaises(NoNote):
            ahead(the_book, "f", (), wrong, 50)
        self.assertEqual(wrong, kept + [Y_AHEAD])

    def test_the_askers_own(self):
        the_book = book_of("bit", ask("and", ask("not", NO), ask("not", YES)))
        assert_own_list(self, lambda: ahead(the_book, "f", (), [Y_AHEAD], 50)[1])
        ring = book_of("bit", let("y", "bit", ask("not", name("y")), name("y")))
        assert_own_list(self, lambda: ahead(ring, "f", (), [("not", 0, ())], 50)[0][1])

    def test_asked_in_another_order(self):
        one_book, same = book(), book()
        asked(same, "odd", ("B",), 2)
        ahead(same, "pile", (), [("swap", 0, ())] if is_needed(same, "swap", 0, ()) else [], 50, True)
        for f, row in madeup.askings(one_book):
            self.assertEqual(ahead(one_book, f, row, [("not", 0, ())], 50, True),
                             ahead(same, f, row, [("not", 0, ())], 50, True))


if __name__ == "__main__":
    unittest.main()
