"""wantway.books: [9] and, as far as it speaks of them, [2]."""

import unittest

from helpers import assert_only, assert_own_list
from wantway import errors
from wantway.books import Book
from wantway.kinds import Kinds

UNIT = ("unit", ("tags", ("U",)))
BIT = ("bit", ("tags", ("NO", "YES")))
TINT = ("tint", ("tags", ("RED", "GREEN", "BLUE")))
BOTH = ("both", ("pair", "bit", "bit"))
KINDS = [UNIT, BIT, TINT, BOTH]
ON = ("tag", "YES")
NOT = ("not", (("x", "bit"),), "bit", ("choose", ("name", "x"), (("NO", ON), ("YES", ("tag", "NO")))))
ONES = ("ones", (), "both", ("pair", ON, ("ask", "not", (("one", ("ask", "ones", ())),))))
PICK = ("pick", (("x", "bit"), ("u", "unit"), ("t", "tint")), "tint", ("name", "t"))


def plain(name, *kinds):
    """A right definition of this name, with parameters of these kinds."""
    return (name, tuple(zip("abc", kinds)), "bit", ON)


class BooksTest(unittest.TestCase):
    def refused(self, definitions, number, place=None, kinds=KINDS):
        handed_kinds, handed = list(kinds), list(definitions)
        with self.assertRaises(errors.NoBook) as caught:
            Book(handed_kinds, handed)
        assert_only(self, caught.exception, errors.NoBook)
        self.assertEqual((caught.exception.number, caught.exception.place), (number, place))
        self.assertEqual((handed_kinds, handed), (list(kinds), list(definitions)))


class ToldTest(BooksTest):
    def setUp(self):
        self.book = Book(KINDS, [NOT, ONES, PICK])

    def test_as_told(self):
        self.assertEqual(self.book.names(), ["not", "ones", "pick"])
        for name, parameters, kind, body in [NOT, ONES, PICK]:
            self.assertEqual(self.book.parameters(name), parameters)
            self.assertEqual(self.book.kind_of(name), kind)
            self.assertEqual(self.book.body_of(name), body)

    def test_kinds_as_told(self):
        kinds = self.book.kinds()
        self.assertIsInstance(kinds, Kinds)
        self.assertEqual([(name, kinds.shape_of(name)) for name in kinds.names()], KINDS)
        self.assertEqual(kinds.worths_of("bit"), [None, "NO", "YES"])

    def test_rows(self):
        self.assertEqual(self.book.rows_of("ones"), [()])
        self.assertEqual(self.book.rows_of("not"), [(None,), ("NO",), ("YES",)])
        book = Book(KINDS, [plain("two", "bit", "unit")])
        self.assertEqual(
            book.rows_of("two"),
            [(None, None), (None, "U"), ("NO", None), ("NO", "U"), ("YES", None), ("YES", "U")],
        )
        rows = self.book.rows_of("pick")
        bits, units, tints = [None, "NO", "YES"], [None, "U"], [None, "RED", "GREEN", "BLUE"]
        self.assertEqual(rows, [(x, u, t) for x in bits for u in units for t in tints])
        book = Book(KINDS, [plain("pairs", "both", "bit")])
        worths = Kinds(KINDS).worths_of("both")
        self.assertEqual(book.rows_of("pairs"), [(pair, x) for pair in worths for x in bits])

    def test_no_definition_has_the_name(self):
        for question in (self.book.parameters, self.book.kind_of, self.book.body_of, self.book.rows_of):
            for name in ("none", "", "NOT", "bit", "x", "no", "pick ", None, 0, ("not",), ["not"]):
                with self.assertRaises(errors.NoAsking) as caught:
                    question(name)
                assert_only(self, caught.exception, errors.NoAsking)

    def test_lists_are_the_askers_own(self):
        book = self.book
        for ask in (book.names, lambda: book.rows_of("not"), lambda: book.rows_of("ones"), book.kinds().names):
            assert_own_list(self, ask)

    def test_what_is_handed_in_stays_and_may_be_changed_behind(self):
        kinds, definitions = list(KINDS), [NOT, ONES, PICK]
        book = Book(kinds, definitions)
        self.assertEqual((kinds, definitions), (KINDS, [NOT, ONES, PICK]))
        kinds[1] = ("bit", ("tags", ("A", "B")))
        definitions[0] = plain("other")
        definitions.append(plain("more"))
        self.assertEqual(book.names(), ["not", "ones", "pick"])
        self.assertEqual(book.body_of("not"), NOT[3])
        self.assertEqual(book.rows_of("not"), [(None,), ("NO",), ("YES",)])
        kinds.clear()
        definitions.clear()
        self.assertEqual(book.kinds().names(), ["unit", "bit", "tint", "both"])
        self.assertEqual(book.kind_of("ones"), "both")
        with self.assertRaises(errors.NoAsking):
            book.rows_of("more")


class HeadsTest(BooksTest):
    def test_one_and_eight_definitions(self):
        self.assertEqual(Book(KINDS, [NOT]).names(), ["not"])
        eight = [plain(name) for name in "abcdefgh"]
        self.assertEqual(Book(KINDS, eight).names(), list("abcdefgh"))

    def test_none_nine_and_ten(self):
        self.refused([], 0)
        self.refused([plain(name) for name in "abcdefghi"], 8)
        self.refused([plain(name) for name in "abcdefghij"], 8)
        self.refused([plain(name) for name in "abcabcabc"], 3)
        self.refused([plain(name) for name in "abcdefgha"], 8)

    def test_names(self):
        Book(KINDS, [plain("a"), plain("abcdefgh")])
        for name in ("", "A", "abcdefghi", "a1", "a b", " "):
            self.refused([plain(name)], 0)
            self.refused([plain("a"), plain("b"), plain(name)], 2)

    def test_a_name_twice(self):
        self.refused([plain("a"), plain("a")], 1)
        self.refused([plain("a"), plain("b"), plain("c"), plain("b")], 3)

    def test_one_text_as_a_name_of_several_things(self):
        book = Book(KINDS, [("bit", (("bit", "bit"),), "bit", ("name", "bit")), plain("a", "bit")])
        self.assertEqual(book.names(), ["bit", "a"])

    def test_names_of_parameters(self):
        Book(KINDS, [("f", (("abcdefgh", "bit"),), "bit", ON)])
        for name in ("", "X", "abcdefghi", "x1", "x y"):
            self.refused([("f", ((name, "bit"),), "bit", ON)], 0)
            self.refused([plain("a"), ("f", (("x", "bit"), (name, "unit")), "bit", ON)], 1)

    def test_a_parameter_twice(self):
        self.refused([plain("a"), ("f", (("x", "bit"), ("x", "bit")), "bit", ON)], 1)
        self.refused([("f", (("x", "bit"), ("y", "bit"), ("x", "unit")), "bit", ON)], 0)
        Book(KINDS, [("f", (("x", "bit"),), "bit", ON), ("g", (("x", "unit"),), "bit", ON)])

    def test_three_and_four_parameters(self):
        names = [("w", "unit"), ("x", "unit"), ("y", "unit"), ("z", "unit")]
        self.assertEqual(len(Book(KINDS, [("f", tuple(names[:3]), "bit", ON)]).rows_of("f")), 8)
        self.refused([("f", tuple(names), "bit", ON)], 0)
        self.refused([plain("a"), ("f", tuple(names + [("v", "unit")]), "bit", ON)], 1)

    def test_no_kind_of_the_book(self):
        for kind in ("none", "", "BIT", "YES", "f"):
            self.refused([plain("a"), ("f", (("x", kind),), "bit", ON)], 1)
            self.refused([("f", (("x", "bit"), ("y", "bit"), ("z", kind)), "bit", ON)], 0)
            self.refused([plain("a"), ("f", (), kind, ON)], 1)

    def test_200_rows_and_more(self):
        # A pair of bits has ten worths.
        self.assertEqual(len(Book(KINDS, [plain("f", "both", "both", "unit")]).rows_of("f")), 200)
        self.refused([plain("f", "both", "both", "bit")], 0)
        self.refused([plain("a"), plain("f", "both", "both", "both")], 1)
        kinds = [
            ("c", ("tags", ("A", "B", "C"))), ("d", ("tags", ("D", "E", "F"))), ("bit", ("tags", ("NO", "YES"))),
            ("p", ("pair", "c", "d")),
        ]
        self.refused([plain("f", "p", "c", "bit")], 0, kinds=kinds)
        self.assertEqual(len(Book(kinds, [plain("f", "p", "bit", "bit")]).rows_of("f")), 153)

    def test_400_rows_in_all_and_more(self):
        full = [plain("f", "both", "both", "unit"), plain("g", "both", "unit", "both")]
        self.assertEqual(len(Book(KINDS, full).rows_of("g")), 200)
        self.refused(full + [plain("h")], 2)
        self.refused([plain("h")] + full, 2)
        self.refused([plain("h"), full[0], plain("i"), full[1], plain("j")], 3)

    def test_two_faults_at_once(self):
        rows, name, kind = plain("f", "both", "both", "bit"), plain("A"), ("g", (), "none", ON)
        for first in (rows, name, kind):
            for second in (rows, name, kind):
                self.refused([plain("a"), first, plain("b"), second], 1)
        full = [plain("p", "both", "both", "unit"), plain("q", "both", "both", "unit")]
        self.refused(full + [plain("r"), plain("p")], 2)
        self.refused(full[:1] + [plain("p")] + full[1:] + [plain("r")], 1)
        self.refused([plain(name) for name in "abcdefg"] + [plain("A"), plain("i")], 7)

    def test_wrong_kinds_first(self):
        for kinds in ([], [BIT, BIT], KINDS + [("x", ("none", ("A",)))]):
            wrong = [("f", (), "bit", ("tag", "NONE"))]
            for definitions in ([], [NOT], [plain("A")], wrong, [plain("a")] * 9):
                with self.assertRaises(errors.NoKinds) as caught:
                    Book(list(kinds), list(definitions))
                assert_only(self, caught.exception, errors.NoKinds)


class BodiesTest(BooksTest):
    def test_a_wrong_body(self):
        self.refused([plain("a"), ("f", (), "bit", ("tag", "NONE"))], 1, ())
        self.refused([("f", (("x", "both"),), "bit", ("one", ("name", "y")))], 0, (0,))

    def test_of_another_kind_than_told(self):
        self.refused([("f", (), "unit", ON)], 0, ())
        self.refused([plain("a"), ("f", (("x", "both"),), "bit", ("name", "x"))], 1, ())
        self.refused([("f", (), "unit", ("let", "x", "bit", ON, ("name", "x")))], 0, ())

    def test_the_first_wrong_body(self):
        self.refused([plain("a"), ("f", (), "unit", ON), ("g", (), "bit", ("tag", "NONE"))], 1, ())
        self.refused([plain("a"), ("g", (), "bit", ("one", ("tag", "NONE"))), ("f", (), "unit", ON)], 1, (0,))

    def test_heads_first(self):
        wrong = ("f", (), "bit", ("tag", "NONE"))
        self.refused([wrong, plain("A")], 1, None)
        self.refused([wrong, plain("f")], 1, None)
        self.refused([wrong, plain("g", "none")], 1, None)
        self.refused([wrong] + [plain(name) for name in "stuvwxyz"], 8, None)
        self.refused([plain("A"), wrong], 0, None)
        self.refused([("F", (), "bit", ("tag", "NONE"))], 0, None)

    def test_parameters_stand_around_in_their_own_body_alone(self):
        self.refused([plain("a", "bit"), ("f", (), "bit", ("name", "a"))], 1, ())

    def test_asks_of_later_ones_and_of_itself(self):
        first = ("f", (), "bit", ("ask", "g", (("ask", "f", ()),)))
        self.assertEqual(Book(KINDS, [first, plain("g", "bit")]).names(), ["f", "g"])
        self.refused([first, plain("g", "unit")], 0, ())


if __name__ == "__main__":
    unittest.main()
