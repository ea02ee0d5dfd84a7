"""wantway.goings: [18] things, cells and births, [19] heads."""

import unittest

from helpers import born
from samples import KINDS, NO, U, YES, ask, choose, let, name, one, other, pair
from wantway.books import Book
from wantway.goings import Going, Ground

PARAMETERS = (("p", "both"), ("x", "bit"))
NOT = ("not", (("x", "bit"),), "bit", choose(name("x"), YES, NO))


def book_of(kind, body):
    return Book(KINDS, [("f", PARAMETERS, kind, body), NOT])


class FirstStopTest(unittest.TestCase):
    """Where the going into the asking's own cell stops first."""

    WORTHS = (("NO", None), "YES")

    def stop(self, kind, body, worths=WORTHS):
        ground = Ground(book_of(kind, body), "f", worths)
        stop = Going(ground, 0).begin()
        if stop[0] == "head":
            return ("head", ground.head_told(stop[1]))
        if stop[0] == "want":
            return ("want", ground.births[stop[1]])
        return stop

    def tells(self, kind, body, head, worths=WORTHS):
        self.assertEqual(self.stop(kind, body, worths), ("head", head))

    def wants(self, kind, body, birth):
        self.assertEqual(self.stop(kind, body), ("want", birth))

    def test_tag(self):
        self.tells("bit", NO, NO)

    def test_name_of_a_parameter(self):
        self.tells("bit", name("x"), YES)
        self.tells("both", name("p"), ("pair", ("given", 0, (0,)), ("given", 0, (1,))))

    def test_a_given_none_has_no_head(self):
        self.assertEqual(self.stop("bit", name("x"), (None, None)), ("never", 1, ()))
        self.assertEqual(self.stop("both", name("p"), (None, "NO")), ("never", 0, ()))
        self.assertEqual(self.stop("bit", other(name("p"))), ("never", 0, (1,)))

    def test_pair(self):
        self.tells("both", pair(NO, name("x")), ("pair", NO, ("given", 1, ())))
        self.tells("deep", pair(U, name("p")), ("pair", U, ("given", 0, ())))
        cells = ("pair", ("cell", born((0,))), ("cell", born((1,))))
        self.tells("both", pair(ask("not", NO), one(name("p"))), cells)
        self.tells("deep", pair(U, pair(NO, NO)), ("pair", U, ("cell", born((1,)))))
        self.tells("both", pair(choose(NO, NO, NO), let("y", "bit", NO, name("y"))), cells)
        self.tells("both", pair(other(name("p")), NO), ("pair", ("cell", born((0,))), NO))

    def test_one_and_other(self):
        self.tells("bit", one(name("p")), NO)
        self.tells("bit", one(pair(NO, ask("not", NO))), NO)
        self.tells("bit", other(pair(ask("not", NO), name("x"))), YES)
        self.tells("both", other(pair(U, name("p"))), ("pair", ("given", 0, (0,)), ("given", 0, (1,))))
        self.tells("bit", one(other(pair(U, name("p")))), NO)
        self.wants("bit", other(pair(NO, ask("not", NO))), born((0, 1)))
        self.wants("both", other(pair(U, pair(NO, NO))), born((0, 1)))

    def test_choose(self):
        self.tells("bit", choose(name("x"), NO, name("x")), YES)
        self.tells("both", choose(one(name("p")), pair(NO, one(name("p"))), name("p")),
                   ("pair", NO, ("cell", born((1, 1)))))
        self.tells("both", choose(name("x"), name("p"), pair(one(name("p")), NO)),
                   ("pair", ("cell", born((2, 0))), NO))
        self.wants("bit", choose(ask("not", NO), NO, NO), born((0,)))
        self.wants("bit", choose(NO, ask("not", NO), NO), born((1,)))

    def test_ask(self):
        self.wants("bit", ask("not", NO), born(()))
        self.wants("bit", ask("not", ask("not", NO)), born(()))
        self.wants("both", choose(name("x"), name("p"), ask("f", name("p"), NO)), born((2,)))

    def test_let(self):
        self.tells("bit", let("y", "bit", NO, name("y")), NO)
        self.tells("bit", let("y", "bit", name("x"), name("y")), YES)
        self.tells("both", let("y", "both", name("p"), pair(NO, name("x"))), ("pair", NO, ("given", 1, ())))
        self.tells("both", let("y", "bit", ask("not", NO), pair(name("y"), name("y"))),
                   ("pair", ("cell", born((0,))), ("cell", born((0,)))))
        self.tells("both", let("y", "bit", NO, pair(name("y"), one(name("p")))), ("pair", NO, ("cell", born((1, 1)))))
        self.wants("both", let("y", "both", pair(NO, NO), name("y")), born((0,)))
        nested = let("y", "bit", ask("not", NO), let("z", "bit", name("y"), pair(name("z"), NO)))
        self.tells("both", nested, ("pair", ("cell", born((0,))), NO))

    def test_a_let_that_is_its_own_name(self):
        self.tells("both", let("y", "bit", name("y"), pair(name("y"), NO)), ("pair", ("cell", born((0,))), NO))
        self.wants("bit", let("y", "bit", name("y"), name("y")), born((0,)))
        inner = let("y", "bit", ask("not", NO), let("z", "bit", name("z"), pair(name("y"), name("z"))))
        self.tells("both", inner, ("pair", ("cell", born((0,))), ("cell", born((1, 0)))))


class StartTest(unittest.TestCase):
    """What going into the cells made in a going starts from."""

    def starts(self, kind, body):
        ground = Ground(book_of(kind, body), "f", (("NO", None), "YES"))
        Going(ground, 0).begin()
        given = {"p": ("given", 0, ()), "x": ("given", 1, ())}
        self.assertEqual(ground.starts.pop(0), ("f", (), given))
        told = {}
        for number, (f, place, known) in ground.starts.items():
            told[ground.births[number]] = (f, place, {x: ground.thing_told(thing) for x, thing in known.items()})
        return told, given

    def test_an_askings_cell_starts_at_what_is_asked(self):
        told, given = self.starts("bit", ask("not", name("x")))
        self.assertEqual(told, {born(()): ("not", (), {"x": ("given", 1, ())})})
        told, given = self.starts("bit", ask("not", NO))
        self.assertEqual(told, {born(()): ("not", (), {"x": NO})})

    def test_arguments_are_made_with_it_in_the_same_going(self):
        told, given = self.starts("bit", ask("not", ask("not", one(name("p")))))
        self.assertEqual(told, {
            born(()): ("not", (), {"x": ("cell", born((0,)))}),
            born((0,)): ("not", (), {"x": ("cell", born((0, 0)))}),
            born((0, 0)): ("f", (0, 0), given),
        })

    def test_another_cell_starts_at_its_own_body(self):
        told, given = self.starts("both", let("y", "bit", NO, pair(one(name("p")), choose(name("y"), NO, NO))))
        known = {**given, "y": NO}
        self.assertEqual(told, {born((1, 0)): ("f", (1, 0), known), born((1, 1)): ("f", (1, 1), known)})

    def test_a_lets_name_stands_in_its_own_body(self):
        told, given = self.starts("both", let("y", "both", pair(NO, one(name("y"))), name("y")))
        self.assertEqual(told, {born((0,)): ("f", (0,), {**given, "y": ("cell", born((0,)))})})
        told, given = self.starts("bit", let("y", "bit", ask("not", name("y")), name("y")))
        self.assertEqual(told, {born((0,)): ("not", (), {"x": ("cell", born((0,)))})})
        told, given = self.starts("bit", let("y", "bit", name("y"), name("y")))
        self.assertEqual(told, {born((0,)): ("f", (0,), {**given, "y": ("cell", born((0,)))})})

    def test_only_what_is_gone_along_is_made(self):
        told, given = self.starts("bit", choose(name("x"), ask("not", NO), choose(one(name("p")), NO, ask("not", NO))))
        self.assertEqual(told, {})


class HeadsTakenTest(unittest.TestCase):
    def test_going_on_with_a_head(self):
        book = book_of("bit", choose(ask("not", name("x")), NO, one(name("p"))))
        for head, stop in ((NO, ("head", NO)), (YES, ("head", YES))):
            going = Going(Ground(book, "f", (("YES", None), "YES")), 0)
            self.assertEqual(going.begin(), ("want", 1))
            self.assertEqual(going.take_head(head), stop)

    def test_what_fits_nothing(self):
        book = book_of("bit", choose(ask("not", name("x")), NO, YES))
        for head in (("tag", "U"), ("tag", ""), ("pair", NO, NO)):
            going = Going(Ground(book, "f", (None, "NO")), 0)
            going.begin()
            self.assertEqual(going.take_head(head), ("unfit",))
        book = book_of(
            "bit", one(choose(ask("not", NO), name("p"), let("y", "both", name("y"), name("y")))))
        going = Going(Ground(book, "f", (("NO", None), "NO")), 0)
        going.begin()
        going.take_head(YES)
        self.assertEqual(going.take_head(("tag", "NO")), ("unfit",))

    def test_given_things_that_are_none(self):
        ground = Ground(book_of("bit", NO), "f", (("YES", None), "NO"))
        self.assertEqual(ground.head_given(0, (0,)), ("head", YES))
        for i, way in ((2, ()), (-1, ()), (-2, (0,)), (0, (1,)), (0, (2,)), (0, (-1,)), (0, (0, 0)), (1, (0,)),
                       (10 ** 20, ()), (0, (-2,))):
            self.assertEqual(ground.head_given(i, way), ("never", i, way))


class NumbersTest(unittest.TestCase):
    def test_births_and_numbers(self):
        ground = Ground(book_of("bit", NO), "f", (None, None))
        births = [(), born((0,)), born((0,), (1,)), born((1,)), born((0,), (1,), ()), born((0, 1))]
        numbers = [ground.number_of(birth) for birth in births]
        self.assertEqual(len(set(numbers)), len(births))
        self.assertEqual([ground.births[number] for number in numbers], births)
        self.assertEqual([ground.number_of(birth) for birth in births], numbers)
        self.assertEqual(numbers[0], 0)
        self.assertEqual(ground.number_at(numbers[1], (1,)), numbers[2])
        self.assertLess(numbers[1], numbers[2])

    def test_far_down(self):
        ground = Ground(book_of("bit", NO), "f", (None, None))
        one_way, same_way = born(*[(0,)] * 3000), born(*[(0,)] * 3000)
        self.assertEqual(ground.number_of(one_way), ground.number_of(same_way))
        self.assertNotEqual(ground.number_of(one_way), ground.number_of((one_way, (0,))))
        self.assertEqual(ground.number_of((same_way, (7,))), ground.number_at(ground.number_of(one_way), (7,)))


if __name__ == "__main__":
    unittest.main()
