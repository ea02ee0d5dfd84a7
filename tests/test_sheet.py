"""wantway.sheet: [30], sheets, [32], cells asked, [33], changes."""

import copy
import itertools
import unittest

import sheetsamples
from helpers import assert_only, assert_own_list
from sheetsamples import CELLS, Reading, asks, bit, book, made_up_sheets, made_up_told, three
from wantway.errors import NoCell, NoSheet
from wantway.sheet import Sheet
from wantway.sheetlooks import least, shows_least
from wantway.tables import table_of


def sheet():
    return Sheet(book(), CELLS)


class ToldTest(unittest.TestCase):
    def test_cells(self):
        self.assertEqual(sheet().cells(), CELLS)
        some = sheet()
        assert_own_list(self, some.cells)

    def test_one_to_thirty(self):
        names = [one + other for one in "abcdef" for other in "vwxyz"]
        for count in (1, 2, 29, 30):
            cells = [(x, asks("not", names[0])) for x in names[:count]]
            self.assertEqual(Sheet(book(), cells).cells(), cells)
            self.assertEqual(Sheet(book(), cells).ask(names[count - 1])[0], None)

    def test_what_may_be_told(self):
        for told in (bit("NO"), bit("YES"), bit(None), three("C"), three(None), asks("yes"), asks("loop"), asks("not", "a"),
                     asks("and", "a", "a"), asks("pick", "a", "a", "n"), asks("turn", "n"), asks("turn", "z")):
            cells = [("a", bit("NO")), ("z", told), ("n", three("A"))]
            self.assertEqual(Sheet(book(), cells).cells(), cells)
        cells = [("eightlet", asks("and", "eightlet", "a")), ("a", bit("NO"))]
        self.assertEqual(Sheet(book(), cells).cells(), cells)


class NoSheetTest(unittest.TestCase):
    def refused(self, cells, number):
        for ask in (Sheet, least, lambda one, other: shows_least(one, other, [])):
            with self.assertRaises(NoSheet) as caught:
                ask(book(), cells)
            assert_only(self, caught.exception, NoSheet)
            self.assertEqual(caught.exception.number, number)

    def told_wrong(self, told):
        """Told of the second cell of three, the others of which are right."""
        self.refused([("a", bit("NO")), ("z", told), ("n", three("A"))], 1)

    def test_how_many(self):
        self.refused([], 0)
        names = [one + other for one in "abcdefg" for other in "vwxyz"]
        self.refused([(x, bit("NO")) for x in names[:31]], 30)
        self.refused([(x, bit("NO")) for x in names], 30)
        # Ahead of all else.
        self.refused([("A", bit("Z"))] + [(x, bit("NO")) for x in names[:30]], 30)

    def test_names(self):
        for wrong in ("", "A", "a1", "ninesigns", "a b", " a"):
            self.refused([(wrong, bit("NO"))], 0)
            self.refused([("a", bit("NO")), (wrong, bit("NO")), ("b", bit("NO"))], 1)
        self.refused([("a", bit("NO")), ("a", bit("NO"))], 1)
        self.refused([("a", bit("NO")), ("b", bit("NO")), ("c", bit("NO")), ("b", three("A"))], 3)

    def test_tags(self):
        for wrong in (bit("A"), three("NO"), bit("no"), bit(""), bit("Z"), ("tag", "none", "NO"), ("tag", "none", None),
                      ("tag", "both", None), ("tag", "both", "NO"), ("tag", "", None), ("tag", "BIT", "NO"),
                      ("tag", "NO", "NO")):
            self.told_wrong(wrong)

    def test_definitions(self):
        for wrong in (asks("none"), asks(""), asks("NOT", "a"), asks("bit"), asks("twin"), asks("first", "a"),
                      asks("first", "z"), asks("a"), asks("none", "a")):
            self.told_wrong(wrong)

    def test_how_many_names(self):
        for wrong in (asks("not"), asks("not", "a", "a"), asks("and", "a"), asks("and"), asks("and", "a", "a", "a"),
                      asks("yes", "a"), asks("pick", "a", "a")):
            self.told_wrong(wrong)

    def test_the_cells_that_are_named(self):
        for wrong in (asks("not", "none"), asks("not", ""), asks("not", "A"), asks("not", "n"), asks("and", "a", "n"),
                      asks("and", "n", "a"), asks("turn", "a"), asks("pick", "a", "n", "n"), asks("pick", "a", "a", "a"),
                      asks("not", "x"), asks("not", "not"), asks("pick", "a", "a", "z")):
            self.told_wrong(wrong)
        self.refused([("z", asks("not", "m")), ("m", asks("turn", "m"))], 0)

    def test_in_the_told_order(self):
        head, named, right = ("b", bit("A")), ("c", asks("not", "none")), ("d", asks("not", "d"))
        for order in itertools.permutations([head, named, right]):
            self.refused(list(order), order.index(head))
        for order in itertools.permutations([named, right, ("e", bit("NO"))]):
            self.refused(list(order), order.index(named))
        self.refused([named, right, right], 2)
        self.refused([named, ("e", asks("not", "n")), ("n", three("A"))], 0)
        self.refused([("e", asks("not", "n")), named, ("n", three("A"))], 0)
        # The number of names is looked at ahead of which they are.
        self.refused([named, ("e", asks("and", "e"))], 1)
        # So is whether the definition is one that a sheet asks.
        self.refused([named, ("e", asks("first", "e"))], 1)
        self.refused([named, ("e", asks("twin"))], 1)


class AskTest(unittest.TestCase):
    def asked(self, cells, name, worth, *deeds):
        told = Sheet(book(), cells).ask(name)
        self.assertEqual(told, (worth, [(x, "done") for x in deeds]))
        self.assertIs(type(told), tuple)
        self.assertIs(type(told[1]), list)

    def test_each_cell(self):
        for name, worth, deeds in (
                ("a", "YES", ""), ("b", "NO", ""), ("n", "B", ""), ("c", "YES", "dc"), ("d", "YES", "d"), ("e", "NO", "me"),
                ("m", "C", "m"), ("f", "NO", "f"), ("g", None, "g"), ("h", None, "ih"), ("i", None, "hi")):
            self.asked(CELLS, name, worth, *deeds)

    def test_told_cells_are_not_done(self):
        self.asked([("a", bit("NO"))], "a", "NO")
        self.asked([("a", bit(None))], "a", None)
        self.asked([("a", bit(None)), ("b", asks("not", "a"))], "b", None, "b")

    def test_none_to_want(self):
        self.asked([("a", asks("yes"))], "a", "YES", "a")
        self.asked([("a", asks("loop"))], "a", None, "a")
        self.asked([("a", asks("loop")), ("b", asks("not", "a"))], "b", None, "a", "b")

    def test_what_is_not_wanted_is_not_asked(self):
        self.asked([("a", bit("NO")), ("b", asks("not", "a")), ("c", asks("and", "a", "b"))], "c", "NO", "c")
        # The parameter that is wanted first isn't the first one.
        cells = [("a", asks("yes")), ("b", asks("not", "a")), ("n", three("A")), ("m", asks("turn", "n"))]
        self.asked(cells + [("e", asks("pick", "a", "b", "n"))], "e", "YES", "a", "e")
        self.asked(cells + [("e", asks("pick", "a", "b", "m"))], "e", "NO", "m", "a", "b", "e")
        # Where what was wanted comes out None, nothing more is.
        cells = [("a", asks("loop")), ("b", asks("yes")), ("c", asks("and", "a", "b"))]
        self.asked(cells, "c", None, "a", "c")

    def test_known_wherever_it_stands(self):
        cells = [("a", asks("yes")), ("c", asks("and", "a", "a")), ("n", three("B")), ("d", asks("pick", "a", "a", "n"))]
        self.asked(cells, "c", "YES", "a", "c")
        self.asked(cells, "d", "YES", "a", "d")

    def test_wanted_while_being_asked(self):
        self.asked([("a", asks("not", "a"))], "a", None, "a")
        self.asked([("a", asks("and", "a", "a"))], "a", None, "a")
        ring = [("a", asks("not", "b")), ("b", asks("not", "c")), ("c", asks("not", "a"))]
        self.asked(ring, "a", None, "c", "b", "a")
        self.asked(ring, "b", None, "a", "c", "b")
        # One that is wanted round, but needn't be, has a worth.
        cells = [("a", bit("NO")), ("b", asks("and", "a", "c")), ("c", asks("not", "b"))]
        self.asked(cells, "c", "YES", "b", "c")
        self.asked(cells, "b", "NO", "b")

    def test_asked_again_in_the_same_moment(self):
        some = sheet()
        self.assertEqual(some.ask("e"), ("NO", [("m", "done"), ("e", "done")]))
        self.assertEqual(some.ask("e"), ("NO", []))
        self.assertEqual(some.ask("m"), ("C", []))
        self.assertEqual(some.ask("c"), ("YES", [("d", "done"), ("c", "done")]))
        self.assertEqual(some.ask("d"), ("YES", []))
        self.assertEqual(some.ask("h"), (None, [("i", "done"), ("h", "done")]))
        self.assertEqual(some.ask("i"), (None, []))
        self.assertEqual(some.ask("h"), (None, []))

    def test_no_cell(self):
        some = sheet()
        for name in ("none", "", "A", "and", "not", "bit", "x", "NO"):
            with self.assertRaises(NoCell) as caught:
                some.ask(name)
            assert_only(self, caught.exception, NoCell)


class ChangeTest(unittest.TestCase):
    def test_a_tag(self):
        some = sheet()
        some.ask("c")
        self.assertIsNone(some.change("b", bit("YES")))
        self.assertEqual(some.ask("c"), ("NO", [("d", "done"), ("c", "done")]))
        some.change("b", bit(None))
        self.assertEqual(some.ask("c"), (None, [("d", "done"), ("c", "done")]))
        some.change("b", bit("NO"))
        self.assertEqual(some.ask("c"), ("YES", [("d", "done"), ("c", "done")]))
        self.assertEqual(some.cells(), CELLS)

    def test_to_the_same(self):
        some = sheet()
        some.ask("c")
        some.change("b", bit("NO"))
        self.assertEqual(some.ask("c"), ("YES", [("d", "looked"), ("c", "looked")]))
        # An asking that is told again is changed all the same.
        some.change("d", asks("not", "b"))
        self.assertEqual(some.ask("c"), ("YES", [("d", "done"), ("c", "looked")]))
        some.change("c", asks("and", "a", "d"))
        self.assertEqual(some.ask("c"), ("YES", [("d", "looked"), ("c", "done")]))

    def test_a_change_that_is_not_wanted(self):
        some = sheet()
        some.ask("c")
        some.change("n", three("A"))
        self.assertEqual(some.ask("c"), ("YES", [("d", "looked"), ("c", "looked")]))
        self.assertEqual(some.ask("c"), ("YES", []))
        self.assertEqual(some.ask("d"), ("YES", []))

    def test_what_comes_out_as_before(self):
        cells = [("a", bit("NO")), ("b", bit("NO")), ("c", asks("and", "a", "b")), ("d", asks("not", "c"))]
        some = Sheet(book(), cells)
        self.assertEqual(some.ask("d"), ("YES", [("c", "done"), ("d", "done")]))
        some.change("a", bit("YES"))
        self.assertEqual(some.ask("d"), ("YES", [("c", "done"), ("d", "looked")]))
        some.change("b", bit("YES"))
        self.assertEqual(some.ask("d"), ("NO", [("c", "done"), ("d", "done")]))

    def test_at_the_first_that_comes_out_otherwise(self):
        # c wanted a and then b; with a changed b is not wanted any more, and not asked.
        cells = [("a", bit("YES")), ("e", bit("NO")), ("b", asks("not", "e")), ("c", asks("and", "a", "b"))]
        some = Sheet(book(), cells)
        self.assertEqual(some.ask("c"), ("YES", [("b", "done"), ("c", "done")]))
        some.change("a", bit("NO"))
        self.assertEqual(some.ask("c"), ("NO", [("c", "done")]))
        some.change("a", bit("YES"))
        self.assertEqual(some.ask("c"), ("YES", [("b", "looked"), ("c", "done")]))

    def test_an_asking(self):
        some = sheet()
        some.ask("e")
        some.change("m", asks("turn", "m"))
        self.assertEqual(some.ask("e"), (None, [("m", "done"), ("e", "done")]))
        some.change("m", three("B"))
        self.assertEqual(some.ask("m"), ("B", []))
        self.assertEqual(some.ask("e"), ("YES", [("d", "done"), ("e", "done")]))
        some.change("m", asks("turn", "n"))
        self.assertEqual(some.ask("e"), ("NO", [("m", "done"), ("e", "done")]))
        self.assertEqual(some.cells(), CELLS)

    def test_several_changes_ahead_of_one_asking(self):
        some = sheet()
        some.ask("c")
        some.change("a", bit("NO"))
        some.change("b", bit("YES"))
        some.change("a", bit("YES"))
        self.assertEqual(some.ask("c"), ("NO", [("d", "done"), ("c", "done")]))
        some.change("b", bit("NO"))
        some.change("b", bit("YES"))
        self.assertEqual(some.ask("c"), ("NO", [("d", "looked"), ("c", "looked")]))

    def test_what_was_asked_in_moments_long_past(self):
        some = sheet()
        some.ask("c")
        some.ask("m")
        some.change("b", bit("YES"))
        some.ask("d")
        some.change("n", three("C"))
        self.assertEqual(some.ask("c"), ("NO", [("d", "looked"), ("c", "done")]))
        self.assertEqual(some.ask("m"), ("A", [("m", "done")]))

    def test_rings_made_and_broken(self):
        cells = [("a", bit("YES")), ("b", asks("and", "a", "c")), ("c", asks("not", "b")), ("d", asks("not", "c"))]
        some = Sheet(book(), cells)
        self.assertEqual(some.ask("b"), (None, [("c", "done"), ("b", "done")]))
        some.change("a", bit("NO"))
        self.assertEqual(some.ask("c"), ("YES", [("b", "done"), ("c", "done")]))
        self.assertEqual(some.ask("d"), ("NO", [("d", "done")]))
        some.change("a", bit("YES"))
        self.assertEqual(some.ask("d"), (None, [("b", "done"), ("c", "done"), ("d", "done")]))
        some.change("a", bit("YES"))
        self.assertEqual(some.ask("b"), (None, [("c", "looked"), ("b", "looked")]))
        self.assertEqual(some.ask("d"), (None, [("d", "looked")]))

    def test_cells_tell_what_was_changed(self):
        some = sheet()
        some.change("d", asks("and", "d", "g"))
        changed = [(x, asks("and", "d", "g") if x == "d" else told) for x, told in CELLS]
        self.assertEqual(some.cells(), changed)
        some.change("n", three(None))
        self.assertEqual(some.cells()[2], ("n", three(None)))


class NoChangeTest(unittest.TestCase):
    def nothing_changed(self, some):
        self.assertEqual(some.cells(), CELLS)
        # No new moment either, or this would be looked at again.
        self.assertEqual(some.ask("c"), ("YES", []))
        self.assertEqual(some.ask("d"), ("YES", []))

    def refused(self, name, told, number):
        some = sheet()
        some.ask("c")
        with self.assertRaises(NoSheet) as caught:
            some.change(name, told)
        assert_only(self, caught.exception, NoSheet)
        self.assertEqual(caught.exception.number, number)
        self.nothing_changed(some)

    def test_no_cell(self):
        some = sheet()
        some.ask("c")
        for name in ("none", "", "A", "and", "x"):
            for told in (bit("NO"), bit("Z"), asks("not", "none")):
                with self.assertRaises(NoCell) as caught:
                    some.change(name, told)
                assert_only(self, caught.exception, NoCell)
        self.nothing_changed(some)

    def test_as_of_the_list_with_it(self):
        self.refused("d", bit("A"), 4)
        self.refused("d", ("tag", "both", None), 4)
        self.refused("d", asks("none"), 4)
        self.refused("d", asks("not"), 4)
        self.refused("d", asks("first", "d"), 4)
        self.refused("d", asks("not", "z"), 4)
        self.refused("d", asks("not", "n"), 4)
        self.refused("a", asks("not", "m"), 0)

    def test_a_kind_that_turns(self):
        # Where another cell names it, that one is refused; by itself it would be right.
        self.refused("d", three("A"), 3)
        self.refused("n", bit("NO"), 6)
        self.refused("m", bit("NO"), 5)
        self.refused("e", three("A"), 5)
        self.refused("e", asks("turn", "n"), 5)
        self.refused("e", asks("turn", "e"), 5)
        self.refused("f", three(None), 7)
        # What it names is looked at ahead of its kind, but tells the same number.
        self.refused("e", asks("turn", "a"), 5)

    def test_the_next_one_is_taken(self):
        some = sheet()
        some.ask("c")
        with self.assertRaises(NoSheet):
            some.change("b", three("A"))
        some.change("b", bit("YES"))
        self.assertEqual(some.ask("c"), ("NO", [("d", "done"), ("c", "done")]))


class MadeUpTest(unittest.TestCase):
    def test_by_a_second_reading(self):
        words = {"looked": 0, "done": 0}
        for chance, the_book, cells, kinds in made_up_sheets(120):
            some, reading = Sheet(the_book, cells), Reading(the_book, cells)
            for again in range(25):
                name = chance.choice(list(kinds))
                if chance.random() < 0.3:
                    told = made_up_told(chance, the_book, kinds, kinds[name])
                    if chance.random() < 0.5:
                        told = dict(some.cells())[name]
                    some.change(name, told)
                    reading.change(name, told)
                    continue
                worth, deeds = some.ask(name)
                self.assertEqual((worth, deeds), reading.ask(name))
                for x, word in deeds:
                    words[word] += 1
            self.assertEqual(some.cells(), reading.cells)
        self.assertGreater(min(words.values()), 300)

    def test_what_a_fresh_sheet_tells_and_does(self):
        for chance, the_book, cells, kinds in made_up_sheets(60, first=500):
            some = Sheet(the_book, cells)
            for again in range(6):
                ended = []
                for name in chance.sample(list(kinds), chance.randint(1, len(kinds))):
                    worth, deeds = some.ask(name)
                    fresh_worth, fresh_deeds = Sheet(the_book, some.cells()).ask(name)
                    self.assertEqual(worth, fresh_worth)
                    self.assertEqual({word for x, word in fresh_deeds} - {"done"}, set())
                    self.assertEqual({x for x, word in deeds} - {x for x, word in fresh_deeds}, set())
                    ended += [x for x, word in deeds]
                self.assertEqual(len(ended), len(set(ended)))
                name = chance.choice(list(kinds))
                some.change(name, made_up_told(chance, the_book, kinds, kinds[name]))

    def test_the_least_worths(self):
        for chance, the_book, cells, kinds in made_up_sheets(60, first=900):
            worths = sheetsamples.least_of(the_book, cells)
            for name in kinds:
                self.assertEqual(Sheet(the_book, cells).ask(name)[0], worths[name])


class OwnTest(unittest.TestCase):
    def test_what_is_handed_in_stays(self):
        cells = copy.deepcopy(CELLS)
        some = Sheet(book(), cells)
        some.ask("e")
        some.change("a", bit("NO"))
        some.ask("e")
        self.assertEqual(cells, CELLS)
        cells[0] = ("z", bit("NO"))
        cells.clear()
        self.assertEqual(some.cells(), [("a", bit("NO"))] + CELLS[1:])
        wrong = CELLS + [CELLS[0]]
        kept = copy.deepcopy(wrong)
        with self.assertRaises(NoSheet):
            Sheet(book(), wrong)
        self.assertEqual(wrong, kept)

    def test_the_askers_own(self):
        some = sheet()
        some.ask("e")[1].append("more")
        assert_own_list(self, lambda: some.ask("e")[1])
        assert_own_list(self, lambda: sheet().ask("e")[1])

    def test_two_sheets_of_one_list(self):
        cells = copy.deepcopy(CELLS)
        the_book = book()
        one, other = Sheet(the_book, cells), Sheet(the_book, cells)
        one.change("b", bit("YES"))
        self.assertEqual(other.ask("c"), ("YES", [("d", "done"), ("c", "done")]))
        self.assertEqual(one.ask("c"), ("NO", [("d", "done"), ("c", "done")]))

    def test_asked_in_another_order(self):
        for chance, the_book, cells, kinds in made_up_sheets(20, first=70):
            one, other = Sheet(the_book, cells), Sheet(the_book, cells)
            table_of(the_book)
            names = list(kinds)
            told = {name: other.ask(name)[0] for name in reversed(names)}
            self.assertEqual({name: one.ask(name)[0] for name in names}, told)


if __name__ == "__main__":
    unittest.main()
