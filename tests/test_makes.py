"""wantway.makes: [11], what a body makes by worths of the names around and by a table."""

import unittest

from wantway.books import Book
from wantway.errors import NoWorth
from wantway.makes import Table, made, made_at
from wantway.worths import is_under

KINDS = [
    ("unit", ("tags", ("U",))),
    ("bit", ("tags", ("NO", "YES"))),
    ("both", ("pair", "bit", "bit")),
    ("deep", ("pair", "unit", "both")),
]
NO, YES, U = ("tag", "NO"), ("tag", "YES"), ("tag", "U")
KNOWN = {"b": "YES", "n": None, "p": ("NO", None), "q": None, "r": (None, ("NO", "YES"))}
TABLE = {
    ("f", ()): "YES",
    ("g", (None,)): None, ("g", ("NO",)): "YES", ("g", ("YES",)): "NO",
    ("h", (None, None)): "NO", ("h", ("YES", "NO")): "YES", ("h", ("NO", "YES")): None,
    ("k", (("NO", None),)): (None, "YES"),
}


def name(x):
    return ("name", x)


def choose(body, no, yes):
    return ("choose", body, (("NO", no), ("YES", yes)))


def ask(f, *some):
    return ("ask", f, some)


class MadeTest(unittest.TestCase):
    def makes(self, body, worth, known=KNOWN, table=TABLE):
        kept_known, kept_table = dict(known), dict(table)
        self.assertEqual(made(body, known, Table(table)), worth, body)
        self.assertEqual((known, table), (kept_known, kept_table))

    def makes_nothing(self, body, known=KNOWN, table=TABLE):
        with self.assertRaises(NoWorth):
            made(body, known, Table(table))

    def test_tag(self):
        self.makes(NO, "NO")
        self.makes(U, "U", {}, {})

    def test_name(self):
        self.makes(name("b"), "YES")
        self.makes(name("n"), None)
        self.makes(name("p"), ("NO", None))

    def test_pair(self):
        self.makes(("pair", NO, name("b")), ("NO", "YES"))
        self.makes(("pair", name("n"), NO), (None, "NO"))
        self.makes(("pair", name("n"), name("n")), (None, None))
        self.makes(("pair", U, ("pair", name("b"), name("n"))), ("U", ("YES", None)))

    def test_one_and_other(self):
        self.makes(("one", name("p")), "NO")
        self.makes(("other", name("p")), None)
        self.makes(("one", name("r")), None)
        self.makes(("other", name("r")), ("NO", "YES"))
        self.makes(("other", ("other", name("r"))), "YES")
        self.makes(("one", ("pair", NO, YES)), "NO")
        self.makes(("other", ("pair", NO, YES)), "YES")

    def test_a_part_of_none(self):
        self.makes(("one", name("q")), None)
        self.makes(("other", name("q")), None)
        self.makes(("one", ("other", name("q"))), None)

    def test_choose(self):
        self.makes(choose(name("b"), U, name("n")), None)
        self.makes(choose(name("b"), NO, name("p")), ("NO", None))
        self.makes(choose(NO, U, name("n")), "U")

    def test_choose_of_none(self):
        self.makes(choose(name("n"), U, U), None)
        self.makes(choose(("other", name("p")), name("p"), name("p")), None)

    def test_the_branch_that_is_not_taken_is_left_aside(self):
        self.makes(choose(NO, U, ask("none")), "U")
        self.makes(choose(name("n"), ask("none"), ask("none")), None)

    def test_ask(self):
        self.makes(ask("f"), "YES")
        self.makes(ask("g", NO), "YES")
        self.makes(ask("g", name("n")), None)
        self.makes(ask("g", ask("g", NO)), "NO")
        self.makes(ask("h", YES, NO), "YES")
        self.makes(ask("h", NO, YES), None)
        self.makes(ask("h", name("n"), name("n")), "NO")
        self.makes(ask("k", name("p")), (None, "YES"))

    def test_let(self):
        self.makes(("let", "x", "bit", YES, name("x")), "YES")
        self.makes(("let", "x", "bit", ask("g", name("b")), ("pair", name("x"), name("b"))), ("NO", "YES"))
        self.makes(("let", "x", "bit", name("n"), ("pair", name("x"), NO)), (None, "NO"))
        nested = ("let", "x", "bit", NO, ("let", "y", "bit", ask("g", name("x")), ("pair", name("y"), name("x"))))
        self.makes(nested, ("YES", "NO"))
        inner = ("let", "x", "bit", ("let", "y", "bit", YES, ask("g", name("y"))), name("x"))
        self.makes(inner, "NO")

    def test_a_let_that_names_itself(self):
        self.makes(("let", "x", "bit", name("x"), name("x")), None)
        self.makes(("let", "x", "bit", ask("g", name("x")), name("x")), None)
        # The row: None, (NO, None), (NO, NO), and this again.
        self.makes(("let", "x", "both", ("pair", NO, ("one", name("x"))), name("x")), ("NO", "NO"))
        # The row: None, (None, (None, None)), (None, (YES, None)), (None, (YES, YES)), (U, (YES, YES)), again.
        knot = ("other", name("x"))
        last = ("choose", ("other", knot), (("NO", U), ("YES", U)))
        chosen = ("choose", U, (("U", YES),))
        row = ("pair", last, ("pair", chosen, ("one", knot)))
        self.makes(("let", "x", "deep", row, name("x")), ("U", ("YES", "YES")))
        self.makes(("let", "x", "deep", row, ("one", name("x"))), "U")

    def test_lets_within_one_another_begin_anew(self):
        inner = ("let", "y", "both", ("pair", ("one", name("x")), ("one", name("y"))), name("y"))
        outer = ("let", "x", "both", ("pair", NO, ("other", inner)), name("x"))
        self.makes(outer, ("NO", "NO"))

    def test_a_row_that_does_not_rise(self):
        around = ask("f", name("x"))
        body = ("let", "x", "bit", around, name("x"))
        ends = {("f", (None,)): "NO", ("f", ("NO",)): "YES", ("f", ("YES",)): "YES"}
        comes_round = {("f", (None,)): "NO", ("f", ("NO",)): "YES", ("f", ("YES",)): "NO"}
        falls = {("f", (None,)): "NO", ("f", ("NO",)): None}
        for table in (ends, comes_round, falls):
            self.makes_nothing(body, {}, table)
            self.makes_nothing(("one", ("pair", YES, body)), {}, table)
            self.makes_nothing(("let", "y", "bit", body, YES), {}, table)
            self.makes(choose(NO, YES, body), "YES", {}, table)

    def test_what_the_table_tells_nothing_of(self):
        self.makes_nothing(ask("g", ask("h", NO, NO)))
        self.makes_nothing(("one", ("pair", NO, ask("k", name("q")))))
        self.makes_nothing(("let", "x", "bit", ask("none"), NO))

    def test_what_is_looked_up(self):
        table = Table(TABLE)
        body = ("pair", choose(NO, ask("g", ask("g", YES)), ask("h", YES, NO)), ("let", "x", "bit", ask("f"), YES))
        self.assertEqual(made(body, KNOWN, table), ("YES", "YES"))
        self.assertEqual(set(table.looked), {("g", ("YES",)), ("g", ("NO",)), ("f", ())})


class RowsOfABookTest(unittest.TestCase):
    PARAMETERS = (("x", "bit"), ("p", "both"))
    ASKED = ("pair", name("x"), ("one", name("p")))
    BODIES = [
        ("pair", ("other", name("p")), choose(name("x"), ("one", name("p")), ("one", ask("f", name("x"), name("p"))))),
        ("let", "y", "both", ("pair", name("x"), ("one", name("y"))), ask("f", ("other", name("y")), name("y"))),
        choose(name("x"), name("p"), ("pair", YES, NO)),
    ]

    def test_of_the_right_kind_and_rising(self):
        bodies = dict(zip("fghk", [self.ASKED] + self.BODIES))
        book = Book(KINDS, [(f, self.PARAMETERS, "both", body) for f, body in bodies.items()])
        rows = book.rows_of("f")
        table = {("f", row): made(self.ASKED, dict(zip("xp", row)), Table({})) for row in rows}
        for body in bodies.values():
            worths = {row: made(body, dict(zip("xp", row)), Table(table)) for row in rows}
            for row, worth in worths.items():
                self.assertIs(book.kinds().is_worth("both", worth), True)
                for other in rows:
                    if is_under(row, other):
                        self.assertTrue(is_under(worth, worths[other]))

    def test_made_at_an_asking(self):
        book = Book(KINDS, [("f", self.PARAMETERS, "both", self.BODIES[0])])
        asking = ("f", ("YES", ("NO", "YES")))
        told = {asking: ("NO", None)}
        self.assertEqual(made_at(book, asking, told), (("YES", "NO"), {asking: True}))
        self.assertEqual(made_at(book, ("f", (None, (None, "NO"))), told), (("NO", None), {}))
        self.assertEqual(told, {asking: ("NO", None)})


if __name__ == "__main__":
    unittest.main()
