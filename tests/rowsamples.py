"""A book and rows over it by hand, and made-up ones by a seed, with made rows over them."""

import random

from madeup import Maker
from samples import NO, YES, ask, by_three, choose, name
from wantway.books import Book
from wantway.rows import Rows
from wantway.tables import worth_of

KINDS = [
    ("bit", ("tags", ("NO", "YES"))),
    ("three", ("tags", ("A", "B", "C"))),
    ("both", ("pair", "bit", "bit")),
]
A, B, C = ("tag", "A"), ("tag", "B"), ("tag", "C")
BIT = (("x", "bit"),)
BITS = (("x", "bit"), ("y", "bit"))
THREE = (("n", "three"),)
DEFINITIONS = [
    ("not", BIT, "bit", choose(name("x"), YES, NO)),
    ("and", BITS, "bit", choose(name("x"), NO, name("y"))),
    ("turn", THREE, "three", by_three(name("n"), B, C, A)),
    ("loop", (), "bit", ask("loop")),
    ("never", BIT, "bit", ask("loop")),
    ("odd", (("x", "bit"), ("y", "bit"), ("z", "bit")), "bit",
     choose(name("x"), choose(name("y"), name("z"), ask("not", name("z"))),
            choose(name("y"), ask("not", name("z")), name("z")))),
    ("is", (("n", "three"), ("x", "bit")), "bit", by_three(name("n"), NO, name("x"), YES)),
]
ROWS = [
    # A, B, C and again.
    ("round", THREE, "three", ("then", name("n"), "round", (ask("turn", name("n")),))),
    # NO and YES by turns.
    ("beat", BIT, "bit", ("then", name("x"), "beat", (ask("not", name("x")),))),
    # C, B, A and then nothing.
    ("down", THREE, "three", ("by", name("n"), (
        ("A", ("then", A, "stop", ())),
        ("B", ("then", B, "down", (A,))),
        ("C", ("on", "pass", (B,))),
    ))),
    ("stop", (), "three", ("by", ask("loop"), (("NO", ("on", "stop", ())), ("YES", ("on", "stop", ()))))),
    # On without a head: from A round and round, from B to down at B, from C to A.
    ("pass", THREE, "three", ("by", name("n"), (
        ("A", ("on", "pass", (A,))),
        ("B", ("then", C, "down", (B,))),
        ("C", ("on", "pass", (A,))),
    ))),
    # What comes of the head doesn't stop it.
    ("dim", (), "bit", ("then", ask("loop"), "beat", (ask("and", YES, NO),))),
]


# Made rows over these.
BEAT = ("from", "beat", ("NO",))
ROUND = ("from", "round", ("B",))
DOWN = ("from", "down", ("C",))
STOP = ("from", "stop", ())


def behind(tags, made):
    return ("behind", tuple(tags), made)


def book():
    return Book(KINDS, DEFINITIONS)


def rows():
    return Rows(book(), ROWS)


MADE_UP_HEADS = [
    ("f", BIT, "bit"), ("g", BITS, "bit"), ("h", BITS + (("z", "bit"),), "bit"), ("k", THREE, "three"),
    ("m", (("n", "three"), ("x", "bit")), "three"), ("i", (("n", "three"), ("o", "three")), "bit"),
]


def table_body(chance, kind, parameters, around):
    """A body that looks at all its parameters, and then at none: without it most heads would soon be all alike."""
    if not parameters:
        return ("tag", chance.choice(dict(KINDS)[kind][1]))
    (x, own), *others = parameters
    return ("choose", name(x), tuple(
        (tag, table_body(chance, kind, others, around)) for tag in dict(KINDS)[own][1]))


def made_up_book(chance):
    definitions = []
    for f, parameters, kind in MADE_UP_HEADS:
        body = Maker(chance, KINDS, MADE_UP_HEADS).body(kind, dict(parameters), chance.randint(1, 3))
        if chance.random() < 0.7:
            body = table_body(chance, kind, parameters, {})
        definitions.append((f, parameters, kind, body))
    return Book(KINDS, definitions)


def row_body(chance, heads, kind, around, depth):
    """A right body of a row."""
    def argument(own):
        return Maker(chance, KINDS, MADE_UP_HEADS).body(own, around, chance.randint(0, 2))

    word = chance.choice(("then", "then", "on", "by", "by") if depth else ("then", "on"))
    if word == "by":
        own = chance.choice(("bit", "three"))
        return ("by", argument(own), tuple(
            (tag, row_body(chance, heads, kind, around, depth - 1)) for tag in dict(KINDS)[own][1]))
    r, parameters = chance.choice([(r, parameters) for r, parameters, own in heads if own == kind])
    some = tuple(argument(own) for x, own in parameters)
    return (word, argument(kind), r, some) if word == "then" else (word, r, some)


def made_up_rows(seed):
    """Right rows, by a seed."""
    chance = random.Random(seed)
    heads = []
    for r in "abcdef"[:chance.randint(1, 6)]:
        parameters = chance.choice([(), BIT, BIT, THREE]) if len(heads) < 4 else ()
        heads.append((r, parameters, chance.choice(("bit", "three"))))
    told = [(r, parameters, kind, row_body(chance, heads, kind, dict(parameters), 2))
            for r, parameters, kind in heads]
    return Rows(made_up_book(chance), told)


def stands(rows):
    """All stands of rows, told by trying."""
    worths = (None, "NO", "YES", "A", "B", "C")
    some = [()] + [(one,) for one in worths] + [(one, other) for one in worths for other in worths]
    return [(r, row) for r in rows.names() for row in some if rows.is_stand(r, row)]


def made_row(chance, rows, kind, depth, window=3, each=True):
    """A made-up made row of a kind."""
    words = ["from", "back"] + (["behind", "behind"] if depth else []) + (["each"] * 3 if depth and each else [])
    word = chance.choice(words)
    tags = dict(KINDS)[kind][1]
    if word == "from":
        fitting = [stand for stand in stands(rows) if rows.kind_of(stand[0]) == kind]
        if fitting:
            return ("from",) + chance.choice(fitting)
        word = "back"
    if word == "back":
        fitting = [(f, len(parameters)) for f, parameters, own in MADE_UP_HEADS
                   if own == kind and {own} == {its for x, its in parameters} and len(parameters) <= window]
        f, size = chance.choice(fitting)
        return ("back", f, tuple(chance.choice((None,) + tags * 3) for again in range(size)))
    if word == "behind":
        some = tuple(chance.choice(tags) for again in range(chance.randint(1, 4)))
        return ("behind", some, made_row(chance, rows, kind, depth - 1, window, each))
    f, parameters = chance.choice([(f, parameters) for f, parameters, own in MADE_UP_HEADS
                                   if own == kind and len(parameters) <= 2])
    return ("each", f, tuple(made_row(chance, rows, own, depth - 1, 2, False) for x, own in parameters))


def heads_of(rows, made, n):
    """The first n heads of a made row, or all: a second reading, by lists of heads, not by rests."""
    if made[0] == "from":
        found, stand, passed = [], made[1:], []
        while len(found) < n and stand not in passed:
            step = rows.step(*stand)
            passed.append(stand)
            if step[0] == "nothing":
                break
            if step[0] == "then":
                found.append(step[1])
                passed = []
            stand = step[-1]
        return found
    if made[0] == "back":
        found = list(made[2])
        while len(found) < n:
            found.append(worth_of(rows.book, made[1], tuple(found[-len(made[2]):])))
        return found[:n]
    if made[0] == "behind":
        return (list(made[1]) + heads_of(rows, made[2], n))[:n]
    return [worth_of(rows.book, made[1], some) for some in zip(*[heads_of(rows, one, n) for one in made[2]])]


FOUR = "ABCD"
# Each window of two tags comes once in sixteen.
BRUIJN = "AABACADBBCBDCCDD"


def by_four(body, make):
    return ("choose", body, tuple((tag, make(tag)) for tag in FOUR))


def long_rows():
    """Rows, and a book, with long rings: clock comes round after 13 heads, back by bruijn after 16."""
    following = dict(zip([one + other for one, other in zip(BRUIJN, BRUIJN[1:] + BRUIJN[0])], BRUIJN[2:] + BRUIJN[:2]))
    fours = (("x", "four"), ("y", "four"))

    def sum_of(x, y):
        return FOUR[(FOUR.index(x) + FOUR.index(y)) % 4]

    definitions = [
        ("bruijn", fours, "four", by_four(name("x"), lambda x: by_four(
            name("y"), lambda y: ("tag", following[x + y])))),
        ("sum", fours, "four", by_four(name("x"), lambda x: by_four(name("y"), lambda y: ("tag", sum_of(x, y))))),
        ("flat", fours, "four", by_four(name("x"), lambda x: by_four(name("y"), lambda y: ("tag", "A")))),
        ("next", (("x", "four"),), "four", by_four(name("x"), lambda x: ("tag", sum_of(x, "B")))),
        ("turn", (("n", "trio"),), "trio", ("choose", name("n"), tuple(
            (one, ("tag", other)) for one, other in ("PQ", "QR", "RP")))),
    ]
    clock = (("n", "trio"), ("x", "four"))
    onward = ("then", name("x"), "clock", (name("n"), ask("next", name("x"))))
    last = ("then", name("x"), "clock", (ask("turn", name("n")), A))
    told = [
        ("clock", clock, "four", ("by", name("x"), (("A", onward), ("B", onward), ("C", onward), ("D", (
            "by", name("n"), (("P", last), ("Q", last), ("R", ("then", name("x"), "more", ())))))))),
        ("more", (), "four", ("then", A, "clock", (("tag", "P"), A))),
    ]
    book = Book([("four", ("tags", tuple(FOUR))), ("trio", ("tags", ("P", "Q", "R")))], definitions)
    return Rows(book, told)
