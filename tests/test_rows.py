"""wantway.rows: [25], rows told over a book, [26], steps."""

import copy
import itertools
import unittest

import rowsamples
from helpers import assert_only, assert_own_list
from rowsamples import A, B, BIT, BITS, ROWS, THREE, rows
from samples import NO, YES, ask, by_three, choose, let, name, one, pair
from wantway.books import Book
from wantway.errors import NoAsking, NoRows
from wantway.rows import Rows
from wantway.tables import table_of, worth_within

ON = ("on", "r", ())
ROW = ("r", (), "bit", ON)


def by_bit(body, no, yes):
    return ("by", body, (("NO", no), ("YES", yes)))


class ToldTest(unittest.TestCase):
    def test_names(self):
        self.assertEqual(rows().names(), ["round", "beat", "down", "stop", "pass", "dim"])
        self.assertEqual(Rows(rowsamples.book(), [ROW]).names(), ["r"])
        assert_own_list(self, rows().names)
        some = rows()
        assert_own_list(self, some.names)

    def test_kinds(self):
        self.assertEqual([rows().kind_of(r) for r in rows().names()], ["three", "bit", "three", "three", "three", "bit"])

    def test_one_to_six(self):
        for count in range(1, 7):
            told = [(r, (), "bit", ("on", r, ())) for r in "abcdef"[:count]]
            self.assertEqual(Rows(rowsamples.book(), told).names(), list("abcdef"[:count]))

    def test_a_space_of_their_own(self):
        told = [("not", (("and", "bit"),), "bit", ("then", name("and"), "not", (ask("not", name("and")),)))]
        some = Rows(rowsamples.book(), told)
        self.assertEqual(some.step("not", ("NO",)), ("then", "NO", ("not", ("YES",))))

    def test_bodies_within_one_another(self):
        body = by_bit(name("x"), ("then", NO, "r", (YES,)), by_bit(name("x"), ("on", "r", (NO,)), by_bit(
            ask("not", name("x")), ("on", "r", (ask("not", name("x")),)), ("then", name("x"), "r", (NO,)))))
        some = Rows(rowsamples.book(), [("r", BIT, "bit", body)])
        self.assertEqual(some.step("r", ("YES",)), ("on", ("r", ("NO",))))
        self.assertEqual(some.step("r", ("NO",)), ("then", "NO", ("r", ("YES",))))

    def test_made_up_ones_are_right(self):
        for seed in range(60):
            self.assertEqual(rowsamples.made_up_rows(seed).names()[0], "a")

    def test_as_many_stands_as_may_be(self):
        # 12 + 12, and 16 + 4 + 3 + 1.
        told = [("a", (("n", "three"), ("x", "bit")), "bit", ("on", "a", (name("n"), name("x")))),
                ("b", (("x", "bit"), ("n", "three")), "bit", ("on", "a", (name("n"), name("x"))))]
        self.assertEqual(Rows(rowsamples.book(), told).names(), ["a", "b"])
        told = [("a", (("n", "three"), ("o", "three")), "bit", ("on", "d", ())),
                ("b", THREE, "bit", ("on", "d", ())), ("c", BIT, "bit", ("on", "d", ())),
                ("d", (), "bit", ("on", "d", ()))]
        self.assertEqual(Rows(rowsamples.book(), told).names(), ["a", "b", "c", "d"])


class NoRowsTest(unittest.TestCase):
    def refused(self, told, number):
        with self.assertRaises(NoRows) as caught:
            Rows(rowsamples.book(), told)
        assert_only(self, caught.exception, NoRows)
        self.assertEqual(caught.exception.number, number)

    def wrong_body(self, body, parameters=(), kind="bit"):
        """As the second row of three, all of which are right but for this."""
        around = [("p", (("x", "bit"), ("n", "three")), "bit", ("on", "p", (NO, A))), ("q", (), "three", ("on", "q", ()))]
        self.refused([around[0], ("r", parameters, kind, body), around[1]], 1)

    def right_body(self, body, parameters=(), kind="bit"):
        around = [("p", (("x", "bit"), ("n", "three")), "bit", ("on", "p", (NO, A))), ("q", (), "three", ("on", "q", ()))]
        Rows(rowsamples.book(), [around[0], ("r", parameters, kind, body), around[1]])

    def test_how_many(self):
        self.refused([], 0)
        seven = [(r, (), "bit", ("on", r, ())) for r in "abcdefg"]
        self.refused(seven, 6)
        self.refused(seven + [("h", (), "bit", ("on", "h", ()))], 6)
        # Ahead of all else.
        self.refused([("A", (), "none", ON)] + seven, 6)

    def test_names(self):
        for wrong in ("", "R", "r1", "ninesigns", "a b", "r "):
            self.refused([(wrong, (), "bit", ("on", wrong, ()))], 0)
            self.refused([ROW, (wrong, (), "bit", ON)], 1)
        self.refused([ROW, ROW], 1)
        self.refused([ROW, ("s", (), "bit", ON), ("r", (), "three", ON)], 2)
        Rows(rowsamples.book(), [("eightlet", (), "bit", ("on", "eightlet", ()))])

    def test_parameters(self):
        wrong = [
            (("x", "none"),), (("x", "both"),), (("x", "bit"), ("y", "both")), (("x", "bit"), ("x", "bit")),
            (("x", "bit"), ("x", "three")), (("X", "bit"),), (("", "bit"),), (("x", "BIT"),), (("x", ""),),
            (("x", "NO"),), (("ninesigns", "bit"),),
            (("x", "bit"), ("y", "bit"), ("z", "bit"), ("u", "bit")),
        ]
        for parameters in wrong:
            self.refused([("s", parameters, "bit", ON), ROW], 0)
            self.refused([ROW, ("s", parameters, "bit", ON)], 1)

    def test_three_parameters(self):
        kinds = [("unit", ("tags", ("U",)))]
        small = Book(kinds, [("f", (), "unit", ("tag", "U"))])
        parameters = (("x", "unit"), ("y", "unit"), ("z", "unit"))
        body = ("then", name("y"), "r", (name("z"), name("x"), ask("f")))
        self.assertEqual(Rows(small, [("r", parameters, "unit", body)]).step("r", ("U", None, None)),
                         ("then", None, ("r", (None, "U", "U"))))
        with self.assertRaises(NoRows):
            Rows(small, [("r", parameters + (("u", "unit"),), "unit", ("on", "r", ()))])

    def test_kinds(self):
        for kind in ("none", "both", "", "BIT", "NO", "x"):
            self.refused([ROW, ("s", (), kind, ("on", "s", ()))], 1)
            self.refused([("s", (), kind, ("on", "s", ())), ROW], 0)

    def test_heads_of_bodies(self):
        for wrong in (A, name("n"), pair(NO, NO), ("tag", "Z"), ("tag", "no"), name("y"), name("r"), ask("none"),
                      ask("not"), ask("not", A), ask("not", NO, NO), ask("r"), one(NO), ("tag", ""), name("")):
            self.wrong_body(("then", wrong, "r", (name("x"), name("n"))), (("x", "bit"), ("n", "three")))
        for right in (NO, name("x"), ask("not", name("x")), one(pair(NO, NO)), choose(name("x"), NO, NO),
                      by_three(A, NO, YES, NO), let("z", "bit", name("z"), name("z"))):
            self.right_body(("then", right, "r", (name("x"),)), BIT)

    def test_rows_that_bodies_lead_to(self):
        for wrong in ("none", "", "R", "not", "bit", "x", "q"):
            self.wrong_body(("then", NO, wrong, ()))
            self.wrong_body(("on", wrong, ()))
        self.wrong_body(("on", "r", ()), kind="bit", parameters=BIT)
        self.right_body(("on", "p", (YES, B)))
        self.right_body(("then", NO, "p", (YES, B)))
        # q is of another kind, though its head fits.
        self.wrong_body(("then", NO, "q", ()))
        self.wrong_body(("then", A, "q", ()))
        self.right_body(("then", A, "q", ()), kind="three")

    def test_arguments(self):
        for wrong in ((), (NO,), (A,), (A, NO), (NO, A, A), (NO, A, NO), (NO, NO), (pair(NO, NO), A), (NO, name("x")),
                      (name("z"), A), (ask("none"), A), (NO, ("tag", "Z")), (NO, ("tag", ""))):
            self.wrong_body(("then", NO, "p", wrong), BIT)
            self.wrong_body(("on", "p", wrong), BIT)
        self.wrong_body(("on", "r", (NO,)))
        self.right_body(("on", "p", (name("x"), ask("turn", B))), BIT)

    def test_choices(self):
        no, yes = ("NO", ON), ("YES", ON)
        for branches in ((), (no,), (yes,), (yes, no), (no, yes, yes), (no, yes, ("A", ON)), (no, ("A", ON)),
                         (no, ("yes", ON)), (no, no), (("A", ON), ("B", ON), ("C", ON)), (no, ("", ON))):
            self.wrong_body(("by", NO, branches))
        self.right_body(("by", NO, (no, yes)))
        self.right_body(("by", A, (("A", ON), ("B", ON), ("C", ON))))
        for wrong in (pair(NO, NO), ("tag", "Z"), name("x"), ask("none"), ask("not"), A):
            self.wrong_body(("by", wrong, (no, yes)))
        for wrong in (("on", "none", ()), ("then", A, "r", ()), ("on", "q", ()), ("by", NO, (no,))):
            self.wrong_body(by_bit(NO, ON, wrong))
            self.wrong_body(by_bit(NO, wrong, ON))
            self.wrong_body(by_bit(NO, ON, by_bit(YES, wrong, ON)))

    def test_only_the_parameters_stand_around(self):
        self.wrong_body(("on", "r", (name("y"),)), BIT)
        self.wrong_body(by_bit(name("n"), ("on", "r", (NO,)), ("on", "r", (NO,))), BIT)
        # A let's name is around within it alone, and no parameter's.
        self.wrong_body(("then", let("y", "bit", NO, name("y")), "r", (name("y"),)), BIT)
        self.wrong_body(("then", let("x", "bit", NO, name("x")), "r", (NO,)), BIT)
        self.right_body(("then", let("y", "bit", NO, name("y")), "r", (let("y", "bit", NO, name("y")),)), BIT)

    def test_any_texts(self):
        self.wrong_body(("then", let("Y", "bit", NO, NO), "r", ()))
        self.wrong_body(("then", let("", "bit", NO, NO), "r", ()))
        self.wrong_body(("then", let("y", "none", NO, NO), "r", ()))
        self.wrong_body(("then", choose(let("yY", "bit", NO, NO), NO, NO), "r", ()))
        self.wrong_body(("then", choose(NO, NO, let("y1", "bit", NO, NO)), "r", ()))
        self.wrong_body(("on", "p", (NO, ask("turn", let("ninesigns", "bit", NO, A)))))
        self.wrong_body(("by", let("Y", "bit", NO, NO), (("NO", ON), ("YES", ON))))
        self.right_body(("then", choose(NO, NO, let("y", "bit", NO, NO)), "r", ()))

    def test_stands(self):
        many = ("many", (("n", "three"), ("o", "three")), "bit", ("on", "many", (name("n"), name("o"))))
        two = ("two", BITS, "bit", ("on", "two", (name("x"), name("y"))))
        self.refused([many, two], 1)
        self.refused([two, many], 1)
        self.refused([many, ("a", THREE, "bit", ("on", "a", (A,))), ("b", (), "bit", ("on", "b", ())),
                      ("c", BIT, "bit", ("on", "c", (NO,))), ROW], 4)
        self.refused([("a", (("n", "three"), ("x", "bit"), ("y", "bit")), "bit", ("on", "a", (A, NO, NO)))], 0)
        self.refused([ROW, ("a", (("n", "three"), ("x", "bit"), ("y", "bit")), "bit", ("on", "a", (A, NO, NO))),
                      ("s", (), "bit", ON)], 1)

    def test_in_the_told_order(self):
        many = ("many", (("n", "three"), ("o", "three"), ("x", "bit")), "bit", ("on", "many", (A, A, NO)))
        wrong_body = ("s", (), "bit", ("on", "none", ()))
        wrong_head = ("t", (), "both", ("on", "none", ()))
        for order in itertools.permutations([many, wrong_body, wrong_head]):
            self.refused(list(order), order.index(wrong_head))
        for order in itertools.permutations([many, wrong_body, ROW]):
            self.refused(list(order), order.index(wrong_body))
        for order in itertools.permutations([many, ("a", (), "bit", ("on", "b", ())), ("b", (), "bit", ("on", "a", ()))]):
            self.refused(list(order), order.index(many))
        self.refused([wrong_head, wrong_head], 0)
        self.refused([wrong_body, ROW, ROW], 2)
        # Rows are asked by their heads, be their bodies right or not.
        self.refused([("a", (), "bit", ("on", "s", ())), wrong_body], 1)
        self.refused([("a", (), "bit", ("on", "b", (NO,))), ("b", BIT, "bit", ("on", "b", ()))], 1)


class StepTest(unittest.TestCase):
    def test_from_each_stand(self):
        some = rows()
        nothing = ("nothing",)
        found = {stand: some.step(*stand) for stand in rowsamples.stands(some)}
        self.assertEqual(found, {
            ("round", (None,)): ("then", None, ("round", (None,))),
            ("round", ("A",)): ("then", "A", ("round", ("B",))),
            ("round", ("B",)): ("then", "B", ("round", ("C",))),
            ("round", ("C",)): ("then", "C", ("round", ("A",))),
            ("beat", (None,)): ("then", None, ("beat", (None,))),
            ("beat", ("NO",)): ("then", "NO", ("beat", ("YES",))),
            ("beat", ("YES",)): ("then", "YES", ("beat", ("NO",))),
            ("down", (None,)): nothing,
            ("down", ("A",)): ("then", "A", ("stop", ())),
            ("down", ("B",)): ("then", "B", ("down", ("A",))),
            ("down", ("C",)): ("on", ("pass", ("B",))),
            ("stop", ()): nothing,
            ("pass", (None,)): nothing,
            ("pass", ("A",)): ("on", ("pass", ("A",))),
            ("pass", ("B",)): ("then", "C", ("down", ("B",))),
            ("pass", ("C",)): ("on", ("pass", ("A",))),
            ("dim", ()): ("then", None, ("beat", ("NO",))),
        })

    def test_worths_of_none_among_the_arguments(self):
        told = [("r", BITS, "bit", ("then", ask("loop"), "r", (ask("and", name("x"), name("y")), ask("loop"))))]
        some = Rows(rowsamples.book(), told)
        self.assertEqual(some.step("r", ("NO", None)), ("then", None, ("r", ("NO", None))))
        self.assertEqual(some.step("r", ("YES", None)), ("then", None, ("r", (None, None))))
        self.assertEqual(some.step("r", ("YES", "YES")), ("then", None, ("r", ("YES", None))))

    def test_what_stands_behind_a_choice_that_tells_none(self):
        told = [("r", BIT, "bit", by_bit(ask("loop"), ("on", "r", (NO,)), ("then", NO, "r", (NO,))))]
        some = Rows(rowsamples.book(), told)
        for worth in (None, "NO", "YES"):
            self.assertEqual(some.step("r", (worth,)), ("nothing",))

    def test_what_is_no_row(self):
        some = rows()
        for r in ("none", "", "ROUND", "not", "three", "n"):
            with self.assertRaises(NoAsking) as caught:
                some.kind_of(r)
            assert_only(self, caught.exception, NoAsking)
            for worths in ((), ("A",), (None,)):
                with self.assertRaises(NoAsking) as caught:
                    some.step(r, worths)
                assert_only(self, caught.exception, NoAsking)

    def test_what_is_no_stand(self):
        some = rows()
        for r, worths in (("round", ()), ("round", ("A", "A")), ("round", ("NO",)), ("round", ("a",)), ("round", ("",)),
                          ("round", (0,)), ("round", (1,)), ("round", (("A", "A"),)), ("round", ((),)),
                          ("round", (("A",),)), ("stop", (None,)), ("stop", ("A",)), ("beat", ("A",)), ("beat", (-1,)),
                          ("dim", ((),))):
            with self.assertRaises(NoAsking) as caught:
                some.step(r, worths)
            assert_only(self, caught.exception, NoAsking)

    def test_by_what_the_bodies_make(self):
        for seed in range(80):
            some = rowsamples.made_up_rows(seed)
            for stand in rowsamples.stands(some):
                parameters, kind, body = some.told[stand[0]]
                known = {x: worth for (x, own), worth in zip(parameters, stand[1])}
                self.assertEqual(some.step(*stand), self.stepped(some.book, known, body))

    def stepped(self, book, known, body):
        if body[0] == "by":
            tag = worth_within(book, known, body[1])
            for other, branch in body[2]:
                if other == tag:
                    return self.stepped(book, known, branch)
            return ("nothing",)
        stand = (body[-2], tuple(worth_within(book, known, argument) for argument in body[-1]))
        return ("on", stand) if body[0] == "on" else ("then", worth_within(book, known, body[1]), stand)


class OwnTest(unittest.TestCase):
    def test_what_is_handed_in_stays(self):
        told = copy.deepcopy(ROWS)
        some = Rows(rowsamples.book(), told)
        self.assertEqual(told, ROWS)
        wrong = told + [told[0]]
        with self.assertRaises(NoRows):
            Rows(rowsamples.book(), wrong)
        self.assertEqual(wrong, ROWS + [ROWS[0]])
        told[1] = ("other", (), "bit", ("on", "other", ()))
        told.clear()
        self.assertEqual(some.names(), rows().names())
        self.assertEqual(some.step("beat", ("NO",)), ("then", "NO", ("beat", ("YES",))))

    def test_asked_in_another_order(self):
        for seed in range(30):
            one_rows, same = rowsamples.made_up_rows(seed), rowsamples.made_up_rows(seed)
            every = rowsamples.stands(one_rows)
            table_of(same.book)
            told = {stand: same.step(*stand) for stand in reversed(every)}
            for stand in every:
                self.assertEqual(one_rows.step(*stand), told[stand])
                self.assertEqual(one_rows.step(*stand), told[stand])


if __name__ == "__main__":
    unittest.main()
