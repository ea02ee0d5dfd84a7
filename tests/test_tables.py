"""wantway.tables: [11] by the least table, [12] rounds, the least table, the round of an asking."""

import unittest

import madeup
import oracle
from helpers import assert_only
from samples import KINDS, NO, NO_ASKINGS, U, YES, ask, book, choose, let, name, one, other, pair
from wantway.books import Book
from wantway.errors import NoAsking
from wantway.tables import round_of, table_after, table_of, worth_of, worth_within

# Of each asking that is worth something: (round, worth) as it turned.
TURNS = {
    ("not", ("NO",)): [(1, "YES")],
    ("not", ("YES",)): [(1, "NO")],
    ("even", ("A",)): [(1, "YES")],
    ("even", ("B",)): [(2, "NO")],
    ("even", ("C",)): [(3, "YES")],
    ("odd", ("A",)): [(1, "NO")],
    ("odd", ("B",)): [(2, "YES")],
    ("odd", ("C",)): [(3, "NO")],
    ("pile", ()): [(1, ("NO", None)), (2, ("NO", "YES"))],
    ("and", ("NO", None)): [(1, "NO")],
    ("and", ("NO", "NO")): [(1, "NO")],
    ("and", ("NO", "YES")): [(1, "NO")],
    ("and", ("YES", "NO")): [(1, "NO")],
    ("and", ("YES", "YES")): [(1, "YES")],
}
LAST = 3


def expected_after(rounds):
    table = {}
    the_book = book()
    for f, row in madeup.askings(the_book):
        table[(f, row)] = None
        for number, worth in TURNS.get((f, row), []):
            if number <= rounds:
                table[(f, row)] = worth
    for row in the_book.rows_of("swap"):
        if rounds >= 1:
            table[("swap", row)] = (None, None) if row[0] is None else row[0][::-1]
    for pair_of, x in the_book.rows_of("knot"):
        if rounds >= 1:
            head = "U" if pair_of is not None and pair_of[0] == "NO" else None
            table[("knot", (pair_of, x))] = (head, (x, x))
    return table


class WorthWithinTest(unittest.TestCase):
    KNOWN = {"b": "YES", "n": None, "p": ("NO", None), "q": None, "w": ("YES", "NO"), "d": ("U", ("NO", None))}
    MAKES = [
        (NO, "NO"), (U, "U"),
        (name("b"), "YES"), (name("n"), None), (name("p"), ("NO", None)), (name("w"), ("YES", "NO")),
        (pair(name("b"), NO), ("YES", "NO")), (pair(name("n"), YES), (None, "YES")),
        (pair(name("n"), name("n")), (None, None)), (pair(U, name("q")), ("U", None)),
        (pair(U, name("p")), ("U", ("NO", None))),
        (one(name("p")), "NO"), (other(name("p")), None), (one(name("q")), None), (other(name("q")), None),
        (one(name("w")), "YES"), (other(name("w")), "NO"), (one(other(name("d"))), "NO"),
        (other(other(name("d"))), None), (one(pair(NO, ask("loop"))), "NO"),
        (choose(name("b"), NO, name("p")), ("NO", None)), (choose(NO, U, ask("loop")), "U"),
        (choose(name("n"), U, U), None), (choose(one(name("q")), NO, NO), None), (choose(ask("loop"), NO, NO), None),
        (ask("loop"), None), (ask("not", name("n")), None), (ask("not", name("b")), "NO"),
        (ask("not", ask("not", name("b"))), "YES"), (ask("and", NO, ask("loop")), "NO"),
        (ask("and", ask("loop"), NO), None), (ask("pile"), ("NO", "YES")), (ask("swap", ask("pile")), ("YES", "NO")),
        (ask("swap", name("q")), (None, None)), (ask("swap", name("p")), (None, "NO")),
        # Rows of one worth, of two and of more.
        (let("x", "bit", name("x"), name("x")), None),
        (let("x", "bit", ask("not", name("x")), name("x")), None),
        (let("x", "bit", name("n"), pair(name("x"), YES)), (None, "YES")),
        (let("x", "bit", YES, name("x")), "YES"),
        (let("x", "both", ask("pile"), other(name("x"))), "YES"),
        (let("x", "both", pair(NO, ask("not", one(name("x")))), name("x")), ("NO", "YES")),
        (let("x", "deep", pair(choose(other(other(name("x"))), U, U), pair(YES, one(other(name("x"))))), name("x")),
         ("U", ("YES", "YES"))),
        # A let in a let, in an argument, in a branch.
        (let("x", "bit", YES, let("y", "bit", ask("not", name("x")), pair(name("x"), name("y")))), ("YES", "NO")),
        (let("x", "both", pair(YES, let("y", "bit", ask("not", one(name("x"))), name("y"))), name("x")),
         ("YES", "NO")),
        (ask("not", let("x", "bit", YES, name("x"))), "NO"),
        (choose(YES, U, let("x", "unit", U, name("x"))), "U"),
        (choose(NO, U, let("x", "unit", name("x"), name("x"))), "U"),
    ]

    def test_what_bodies_make(self):
        the_book = book()
        for body, worth in self.MAKES:
            known = dict(self.KNOWN)
            self.assertEqual(worth_within(the_book, known, body), worth, body)
            self.assertEqual(known, self.KNOWN)

    def test_names_that_are_handed_in_are_all_that_is_known(self):
        self.assertEqual(worth_within(book(), {}, ask("even", ("tag", "C"))), "YES")
        self.assertEqual(worth_within(book(), {"x": "NO"}, ask("not", name("x"))), "YES")

    def test_a_definitions_body_makes_its_worth(self):
        for the_book in [book()] + madeup.books(60):
            for f, row in madeup.askings(the_book):
                known = dict(zip([x for x, kind in the_book.parameters(f)], row))
                self.assertEqual(worth_within(the_book, known, the_book.body_of(f)), worth_of(the_book, f, row))


class RoundsTest(unittest.TestCase):
    def test_each_round(self):
        the_book = book()
        for rounds in range(LAST + 2):
            self.assertEqual(table_after(the_book, rounds), expected_after(rounds), rounds)

    def test_the_order_in_which_rounds_are_asked(self):
        the_book = book()
        for rounds in (2, 0, 7, 1, 3, 0):
            self.assertEqual(table_after(the_book, rounds), expected_after(rounds), rounds)

    def test_far_more_rounds(self):
        self.assertEqual(table_after(book(), 10 ** 30), expected_after(LAST))

    def test_the_least_table(self):
        self.assertEqual(table_of(book()), expected_after(LAST))

    def test_just_the_askings_are_keys(self):
        the_book = book()
        for table in (table_after(the_book, 0), table_after(the_book, 2), table_of(the_book)):
            self.assertIs(type(table), dict)
            self.assertEqual(sorted(map(repr, table)), sorted(map(repr, madeup.askings(the_book))))

    def test_worth_and_round_of_each_asking_in_either_order(self):
        least = expected_after(LAST)
        first_worth, first_round = book(), book()
        for f, row in reversed(madeup.askings(first_worth)):
            worth, number = worth_of(first_worth, f, row), round_of(first_worth, f, row)
            self.assertEqual((round_of(first_round, f, row), worth_of(first_round, f, row)), (number, worth))
            self.assertEqual(worth, least[(f, row)])
            expected = [n for n in range(LAST + 1) if expected_after(n)[(f, row)] == worth][0]
            self.assertEqual(number, expected)
            self.assertEqual(number == 0, worth is None)

    def test_made_up_books(self):
        longest = 0
        for the_book in madeup.books(300):
            tables = oracle.rounds(the_book)
            longest = max(longest, len(tables))
            self.assertEqual(table_of(the_book), tables[-1])
            for number, table in enumerate(tables):
                self.assertEqual(table_after(the_book, number), table)
            self.assertEqual(table_after(the_book, len(tables)), tables[-1])
            for f, row in madeup.askings(the_book):
                worths = [table[(f, row)] for table in tables]
                self.assertEqual(round_of(the_book, f, row), worths.index(worths[-1]))
                self.assertEqual(worth_of(the_book, f, row), worths[-1])
        self.assertGreater(longest, 3)

    def test_a_chain_through_many_rows(self):
        # Counting down three places of three tags: each asking waits for the one below it.
        kinds = [("d", ("tags", ("Z", "O", "T"))), ("bit", ("tags", ("NO", "YES")))]
        down = {"O": ("tag", "Z"), "T": ("tag", "O")}

        def branches(x, below):
            return ("choose", name(x), (("Z", below), ("O", down_to(x, "O")), ("T", down_to(x, "T"))))

        def down_to(x, tag):
            places = []
            for y in "xyz":
                places.append(name(y) if y < x else down[tag] if y == x else ("tag", "T"))
            return ("ask", "f", tuple(places))

        body = branches("z", branches("y", branches("x", YES)))
        the_book = Book(kinds, [("f", tuple((x, "d") for x in "xyz"), "bit", body)])
        self.assertEqual(round_of(the_book, "f", ("Z", "Z", "Z")), 1)
        self.assertEqual(round_of(the_book, "f", ("T", "T", "T")), 27)
        self.assertEqual(worth_of(the_book, "f", (None, "O", "T")), None)

    def test_worths_rise_with_the_rows(self):
        for the_book in [book()] + madeup.books(80):
            table = table_of(the_book)
            for f in the_book.names():
                rows = the_book.rows_of(f)
                for row in rows:
                    for greater in rows:
                        if oracle.row_under(row, greater):
                            self.assertTrue(oracle.under(table[(f, row)], table[(f, greater)]))


class RefusalsTest(unittest.TestCase):
    def test_no_asking(self):
        the_book = book()
        for f, worths in NO_ASKINGS:
            for tell in (worth_of, round_of):
                with self.assertRaises(NoAsking) as caught:
                    tell(the_book, f, worths)
                assert_only(self, caught.exception, NoAsking)
        self.assertEqual(table_of(the_book), expected_after(LAST))


class OwnTest(unittest.TestCase):
    def test_tables_are_the_askers_own(self):
        the_book = book()
        for tell in (table_of, lambda b: table_after(b, 0), lambda b: table_after(b, 2), lambda b: table_after(b, 99)):
            first = tell(the_book)
            kept = dict(first)
            for asking in first:
                first[asking] = "TURNED"
            first["more"] = 1
            self.assertEqual(tell(the_book), kept)
        self.assertEqual(worth_of(the_book, "not", ("NO",)), "YES")
        self.assertEqual(round_of(the_book, "even", ("C",)), 3)

    def test_lists_changed_behind_the_call(self):
        kinds = list(KINDS)
        definitions = [("f", (), "bit", ask("g")), ("g", (), "bit", YES)]
        early, late = Book(kinds, definitions), Book(kinds, definitions)
        self.assertEqual(worth_of(early, "f", ()), "YES")
        kinds.clear()
        definitions[1] = ("g", (), "bit", NO)
        definitions.append(("h", (), "bit", NO))
        for the_book in (early, late):
            self.assertEqual(table_of(the_book), {("f", ()): "YES", ("g", ()): "YES"})
            self.assertEqual(round_of(the_book, "f", ()), 2)


if __name__ == "__main__":
    unittest.main()
