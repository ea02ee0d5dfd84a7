"""A book and sheets over it by hand, made-up ones by a seed, and a second reading of [31] to [33]."""

import random

import rowsamples
from rowsamples import A, B, C, KINDS
from samples import NO, YES, ask, by_three, choose, name, one, pair
from wantway.books import Book
from wantway.needs import next_wanted
from wantway.tables import worth_of

BIT = (("x", "bit"),)
BITS = (("x", "bit"), ("y", "bit"))
DEFINITIONS = [
    ("not", BIT, "bit", choose(name("x"), YES, NO)),
    ("and", BITS, "bit", choose(name("x"), NO, name("y"))),
    # It looks at its last parameter first.
    ("pick", (("x", "bit"), ("y", "bit"), ("n", "three")), "bit", by_three(name("n"), name("x"), name("y"), NO)),
    ("turn", (("n", "three"),), "three", by_three(name("n"), B, C, A)),
    ("yes", (), "bit", YES),
    ("loop", (), "bit", ask("loop")),
    ("twin", (), "both", pair(NO, YES)),
    ("first", (("p", "both"),), "bit", one(name("p"))),
]


def book():
    return Book(KINDS, DEFINITIONS)


def bit(tag):
    return ("tag", "bit", tag)


def three(tag):
    return ("tag", "three", tag)


def asks(f, *names):
    return ("ask", f, names)


CELLS = [
    ("a", bit("YES")), ("b", bit("NO")), ("n", three("B")),
    ("c", asks("and", "a", "d")), ("d", asks("not", "b")), ("e", asks("pick", "c", "d", "m")), ("m", asks("turn", "n")),
    ("f", asks("and", "b", "g")), ("g", asks("and", "g", "a")), ("h", asks("and", "a", "i")), ("i", asks("not", "h")),
]


def made_up_told(chance, book, kinds, kind):
    """What may be told of a cell of a kind, kinds those of all cells."""
    fitting = [f for f in book.names() if book.kind_of(f) == kind]
    if chance.random() < 0.3 or not fitting:
        return ("tag", kind, chance.choice([None] + list(dict(KINDS)[kind][1]) * 2))
    f = chance.choice(fitting)
    return ("ask", f, tuple(chance.choice([x for x in kinds if kinds[x] == own]) for y, own in book.parameters(f)))


def made_up_cells(chance, book):
    """A list of cells, at least one of each kind."""
    names = chance.sample("abcdefghijklmnopqrst", chance.randint(2, 14))
    kinds = {x: chance.choice(("bit", "bit", "three")) for x in names[2:]}
    kinds.update({names[0]: "bit", names[1]: "three"})
    cells = [(x, made_up_told(chance, book, kinds, kinds[x])) for x in names]
    chance.shuffle(cells)
    return cells, kinds


def made_up_sheets(count, first=0):
    """(chance, book, cells, kinds) of some seeds."""
    for seed in range(first, first + count):
        chance = random.Random(seed)
        book = rowsamples.made_up_book(chance)
        cells, kinds = made_up_cells(chance, book)
        yield chance, book, cells, kinds


def least_of(book, cells):
    """A dict of cells to their least worths, as [31] says it."""
    worths = {x: None for x, told in cells}
    while True:
        following = {x: told[2] if told[0] == "tag" else worth_of(book, told[1], tuple(worths[y] for y in told[2]))
                     for x, told in cells}
        if following == worths:
            return worths
        worths = following


def wants_of(book, told, worths):
    """The wants of a cell, each with what comes, by the least worths of all cells."""
    known, found = {}, []
    while True:
        wanted = next_wanted(book, told[1], tuple(known.get(x) for x in told[2]))
        if not wanted:
            return found
        x = told[2][wanted[0][0]]
        found.append((x, worths[x]))
        if worths[x] is None:
            return found
        known[x] = worths[x]


class Reading:
    """A sheet whose worths are always looked up in the least ones; only what is looked at and done is gone through."""

    def __init__(self, book, cells):
        self.book, self.cells = book, list(cells)
        self.wants, self.ended = {}, {}

    def change(self, name, told):
        self.cells = [(x, told if x == name else own) for x, own in self.cells]
        self.ended = {}
        self.wants.pop(name, None)

    def ask(self, name):
        worths = least_of(self.book, self.cells)
        deeds, busy = [], []

        def visit(x):
            told = dict(self.cells)[x]
            if told[0] == "tag" or x in busy or x in self.ended:
                return
            busy.append(x)
            stays = x in self.wants
            for y, came in self.wants.get(x, []):
                visit(y)
                if worths[y] != came:
                    stays = False
                    break
            if not stays:
                self.wants[x] = wants_of(self.book, told, worths)
                for y, came in self.wants[x]:
                    visit(y)
            busy.remove(x)
            self.ended[x] = True
            deeds.append((x, "looked" if stays else "done"))

        visit(name)
        return worths[name], deeds
