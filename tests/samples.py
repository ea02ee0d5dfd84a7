"""A book by hand, whose definitions ask one another round and round, and short names for bodies."""

from wantway.books import Book

KINDS = [
    ("unit", ("tags", ("U",))),
    ("bit", ("tags", ("NO", "YES"))),
    ("three", ("tags", ("A", "B", "C"))),
    ("both", ("pair", "bit", "bit")),
    ("deep", ("pair", "unit", "both")),
]
NO, YES, U = ("tag", "NO"), ("tag", "YES"), ("tag", "U")


def name(x):
    return ("name", x)


def ask(f, *some):
    return ("ask", f, some)


def one(body):
    return ("one", body)


def other(body):
    return ("other", body)


def pair(first, second):
    return ("pair", first, second)


def choose(body, no, yes):
    return ("choose", body, (("NO", no), ("YES", yes)))


def by_three(body, a, b, c):
    return ("choose", body, (("A", a), ("B", b), ("C", c)))


def let(x, kind, own, body):
    return ("let", x, kind, own, body)


BIT = (("x", "bit"),)
BITS = (("x", "bit"), ("y", "bit"))
THREE = (("n", "three"),)
A, B = ("tag", "A"), ("tag", "B")
DEFINITIONS = [
    ("not", BIT, "bit", choose(name("x"), YES, NO)),
    ("even", THREE, "bit", by_three(name("n"), YES, ask("odd", A), ask("odd", B))),
    ("odd", THREE, "bit", by_three(name("n"), NO, ask("even", A), ask("even", B))),
    ("loop", (), "bit", ask("loop")),
    ("pile", (), "both", pair(NO, ask("not", one(ask("pile"))))),
    ("and", BITS, "bit", choose(name("x"), NO, name("y"))),
    ("swap", (("p", "both"),), "both", pair(other(name("p")), one(name("p")))),
    ("knot", (("p", "both"), ("x", "bit")), "deep",
     let("q", "both", pair(name("x"), one(name("q"))),
         pair(choose(one(name("p")), U, ("choose", ask("loop"), (("NO", U), ("YES", U)))), name("q")))),
]
# What is no asking of this book.
NO_ASKINGS = [
    ("none", ()), ("none", ("NO",)), ("", ()), ("NOT", ("NO",)), ("x", ("NO",)), ("bit", ()),
    ("not", ()), ("not", ("NO", "NO")), ("not", ("U",)), ("not", ("no",)), ("not", ("A",)), ("not", ("",)),
    ("not", (0,)), ("not", (1,)), ("not", (-7,)), ("not", (("NO", "NO"),)), ("not", ((),)), ("not", (("NO",),)),
    ("loop", (None,)), ("loop", ("NO",)), ("loop", ((),)),
    ("and", ("NO",)), ("and", ("NO", "A")), ("and", ("NO", None, None)), ("and", (None, 0)),
    ("swap", ("NO",)), ("swap", ("NO", "NO")), ("swap", (("NO",),)), ("swap", (("NO", "NO", "NO"),)),
    ("swap", (("NO", "U"),)), ("swap", (("NO", 1),)), ("swap", (("NO", ("NO", "NO")),)), ("swap", ((),)),
    ("knot", ("NO", (None, None))), ("knot", (("NO", (None, None)), "NO")),
]


def book():
    return Book(KINDS, DEFINITIONS)
