"""wantway.trees: [17], tables told by hand and the trees that tell the same."""

import itertools
import random
import unittest

import oracle
from helpers import assert_only
from wantway.books import Book
from wantway.errors import Falling, Torn
from wantway.kinds import Kinds
from wantway.tables import worth_of
from wantway.trees import tree_body, tree_of, tree_worth

TOLD = [
    ("unit", ("tags", ("U",))),
    ("bit", ("tags", ("NO", "YES"))),
    ("four", ("tags", ("A", "B", "C", "D"))),
]
KINDS = Kinds(TOLD)


def parameters_of(*kinds):
    return tuple(zip("xyz", kinds))


def rows_of(parameters):
    return list(itertools.product(*[KINDS.worths_of(kind) for x, kind in parameters]))


def fewest_looks(parameters, table, fixed=()):
    """The looks on the longest way of the best tree below these (i, tag), None where there is no tree."""
    rows = [row for row in table if all(row[i] == tag for i, tag in fixed)]
    if len({table[row] for row in rows}) == 1:
        return 0
    found = []
    for i, (x, kind) in enumerate(parameters):
        if i in dict(fixed) or any(row[i] is None and table[row] for row in rows):
            continue
        below = [fewest_looks(parameters, table, fixed + ((i, tag),)) for tag in KINDS.wholes_of(kind)]
        if None not in below:
            found.append(1 + max(below))
    return min(found, default=None)


def longest_way(tree):
    if tree[0] != "look":
        return 0
    return 1 + max(longest_way(branch) for tag, branch in tree[2])


def falls(table, one, other):
    return oracle.row_under(one, other) and not oracle.under(table[one], table[other])


def is_torn(table, row):
    greater = [other for other in table if oracle.row_under(row, other) and table[other]]
    raised = [i for i, worth in enumerate(row) if worth is None and all(other[i] for other in greater)]
    return table[row] is None and greater != [] and raised == []


def some_fall(table):
    return any(falls(table, one, other) for one in table for other in table)


class TreeTest(unittest.TestCase):
    def looks_at(self, parameters, kind, table):
        """Try one table; "falling", "torn" or "tree"."""
        kept = dict(table)
        try:
            tree = tree_of(KINDS, parameters, kind, table)
        except Falling as error:
            assert_only(self, error, Falling)
            self.assertTrue(falls(table, error.one, error.other))
            return "falling"
        except Torn as error:
            assert_only(self, error, Torn)
            self.assertFalse(some_fall(table))
            self.assertTrue(is_torn(table, error.row))
            return "torn"
        finally:
            self.assertEqual(table, kept)
        self.is_tree(parameters, tree, ())
        for row in table:
            self.assertEqual(tree_worth(tree, row), table[row])
        self.assertEqual(longest_way(tree), fewest_looks(parameters, table))
        self.assertFalse(some_fall(table) or any(is_torn(table, row) for row in table))
        return "tree"

    def is_tree(self, parameters, tree, looked):
        if tree[0] == "look":
            word, i, branches = tree
            self.assertNotIn(i, looked)
            self.assertEqual([tag for tag, branch in branches], KINDS.wholes_of(parameters[i][1]))
            self.assertIs(type(branches), tuple)
            for tag, branch in branches:
                self.is_tree(parameters, branch, looked + (i,))
        elif tree[0] == "tag":
            self.assertIs(type(tree[1]), str)
            self.assertEqual(len(tree), 2)
        else:
            self.assertEqual(tree, ("never",))

    def all_tables(self, parameters, kind, chosen=None):
        rows = rows_of(parameters)
        seen = {"falling": 0, "torn": 0, "tree": 0}
        for worths in chosen or itertools.product(KINDS.worths_of(kind), repeat=len(rows)):
            seen[self.looks_at(parameters, kind, dict(zip(rows, worths)))] += 1
        return seen

    def test_no_parameter(self):
        self.assertEqual(tree_of(KINDS, (), "bit", {(): None}), ("never",))
        self.assertEqual(tree_of(KINDS, (), "bit", {(): "NO"}), ("tag", "NO"))
        self.assertEqual(self.all_tables((), "bit"), {"falling": 0, "torn": 0, "tree": 3})

    def test_one_parameter(self):
        seen = self.all_tables(parameters_of("bit"), "bit")
        self.assertEqual((seen["torn"], seen["tree"]), (0, 3 * 3 + 2))
        table = {(None,): None, ("NO",): "YES", ("YES",): None}
        tree = ("look", 0, (("NO", ("tag", "YES")), ("YES", ("never",))))
        self.assertEqual(tree_of(KINDS, parameters_of("bit"), "bit", table), tree)

    def test_two_parameters(self):
        seen = self.all_tables(parameters_of("bit", "unit"), "bit")
        self.assertGreater(min(seen.values()), 0)
        seen = self.all_tables(parameters_of("bit", "bit"), "unit")
        self.assertGreater(min(seen.values()), 0)

    def test_three_parameters(self):
        seen = self.all_tables(parameters_of("unit", "unit", "unit"), "bit")
        self.assertGreater(min(seen.values()), 0)

    def test_made_up_tables_of_three_parameters(self):
        chance = random.Random(17)
        for kinds in (("bit", "bit", "bit"), ("four", "bit", "four"), ("bit", "four", "unit")):
            parameters = parameters_of(*kinds)
            chosen = [made_up_table(chance, parameters) for again in range(40)]
            seen = self.all_tables(parameters, "bit", [[table[row] for row in rows_of(parameters)] for table in chosen])
            self.assertGreater(seen["tree"], 20)

    def test_none_alone(self):
        for kinds in ((), ("bit",), ("bit", "four"), ("unit", "bit", "four")):
            parameters = parameters_of(*kinds)
            table = {row: None for row in rows_of(parameters)}
            self.assertEqual(tree_of(KINDS, parameters, "unit", table), ("never",))

    def test_one_tag_alone(self):
        for kinds in (("bit",), ("unit", "bit", "four")):
            parameters = parameters_of(*kinds)
            table = {row: "YES" for row in rows_of(parameters)}
            self.assertEqual(tree_of(KINDS, parameters, "bit", table), ("tag", "YES"))

    def test_falling(self):
        table = {(None,): "NO", ("NO",): "NO", ("YES",): "YES"}
        with self.assertRaises(Falling) as caught:
            tree_of(KINDS, parameters_of("bit"), "bit", table)
        self.assertEqual((caught.exception.one, caught.exception.other), ((None,), ("YES",)))

    def test_falling_goes_ahead_of_torn(self):
        parameters = parameters_of("bit", "unit")
        table = {row: None for row in rows_of(parameters)}
        table.update({("NO", None): "U", (None, "U"): "U"})
        with self.assertRaises(Falling):
            tree_of(KINDS, parameters, "unit", table)

    def test_torn(self):
        parameters = parameters_of("unit", "unit")
        table = {(None, None): None, ("U", None): "U", (None, "U"): "U", ("U", "U"): "U"}
        with self.assertRaises(Torn) as caught:
            tree_of(KINDS, parameters, "unit", table)
        self.assertEqual(caught.exception.row, (None, None))

    def test_torn_though_each_two_go_together(self):
        # Of three parameters each row with a worth knows two, but no one parameter is known by all.
        parameters = parameters_of("bit", "bit", "bit")
        known = [("NO", "YES", None), (None, "NO", "YES"), ("YES", None, "NO")]
        table = {row: "U" if any(oracle.row_under(one, row) for one in known) else None for row in rows_of(parameters)}
        with self.assertRaises(Torn) as caught:
            tree_of(KINDS, parameters, "unit", table)
        self.assertEqual(caught.exception.row, (None, None, None))


class TreeWorthTest(unittest.TestCase):
    TREE = ("look", 1, (("NO", ("tag", "YES")), ("YES", ("look", 0, (("U", ("never",)),)))))

    def test_rows(self):
        told = {("U", "NO"): "YES", (None, "NO"): "YES", ("U", "YES"): None, (None, "YES"): None,
                ("U", None): None, (None, None): None}
        for row, worth in told.items():
            self.assertEqual(tree_worth(self.TREE, row), worth)
        self.assertEqual(tree_worth(("tag", "U"), ()), "U")
        self.assertEqual(tree_worth(("tag", "U"), (None,)), "U")
        self.assertIsNone(tree_worth(("never",), ("U",)))


class TreeBodyTest(unittest.TestCase):
    def test_bodies(self):
        parameters = parameters_of("unit", "bit")
        never = ("ask", "f", (("name", "x"), ("name", "y")))
        inner = ("choose", ("name", "x"), (("U", never),))
        body = ("choose", ("name", "y"), (("NO", ("tag", "YES")), ("YES", inner)))
        self.assertEqual(tree_body(TreeWorthTest.TREE, "f", parameters), body)
        self.assertEqual(tree_body(("tag", "NO"), "f", ()), ("tag", "NO"))
        self.assertEqual(tree_body(("never",), "g", ()), ("ask", "g", ()))

    def test_a_book_with_it_tells_what_the_table_does(self):
        chance = random.Random(18)
        for kinds in ((), ("bit",), ("four", "unit"), ("bit", "bit", "four")):
            parameters = parameters_of(*kinds)
            for again in range(20):
                table = made_up_table(chance, parameters)
                try:
                    tree = tree_of(KINDS, parameters, "bit", table)
                except (Falling, Torn):
                    continue
                book = Book(TOLD, [("f", parameters, "bit", tree_body(tree, "f", parameters))])
                for row in book.rows_of("f"):
                    self.assertEqual(worth_of(book, "f", row), table[row])
                # What was made of a tree can be told by a tree again, with as many looks.
                told = {row: worth_of(book, "f", row) for row in book.rows_of("f")}
                self.assertEqual(longest_way(tree_of(KINDS, parameters, "bit", told)), longest_way(tree))


def made_up_table(chance, parameters):
    """The table of a made-up tree, now and then with one worth turned."""
    def tree(left):
        if not left or chance.random() < 0.3:
            return chance.choice([("never",), ("tag", "NO"), ("tag", "YES")])
        i = chance.choice(left)
        rest = [j for j in left if j != i]
        return ("look", i, tuple((tag, tree(rest)) for tag in KINDS.wholes_of(parameters[i][1])))

    told = tree(list(range(len(parameters))))
    table = {row: tree_worth(told, row) for row in rows_of(parameters)}
    if chance.random() < 0.2:
        table[chance.choice(list(table))] = chance.choice([None, "NO", "YES"])
    return table


if __name__ == "__main__":
    unittest.main()
