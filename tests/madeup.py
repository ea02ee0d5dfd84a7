"""Made-up right books, by a seed: many small ones, so that a promise is tried on shapes nobody thought of."""

import random

from wantway.books import Book

KIND_LISTS = [
    [("unit", ("tags", ("U",))), ("bit", ("tags", ("NO", "YES")))],
    [("bit", ("tags", ("NO", "YES"))), ("both", ("pair", "bit", "bit"))],
    [("unit", ("tags", ("U",))), ("bit", ("tags", ("NO", "YES"))), ("half", ("pair", "unit", "bit")),
     ("deep", ("pair", "half", "unit"))],
    [("three", ("tags", ("A", "B", "C"))), ("unit", ("tags", ("U",))), ("slow", ("pair", "three", "unit")),
     ("twin", ("pair", "unit", "unit")), ("far", ("pair", "unit", "twin"))],
]
MOST_ROWS = 60


class Maker:
    """Makes bodies of a wanted kind by the names around."""

    def __init__(self, chance, kinds, heads):
        self.chance = chance
        self.shapes = dict(kinds)
        self.heads = heads
        self.lets = 0

    def leaf(self, kind, around):
        fitting = [("name", x) for x, own in around.items() if own == kind]
        shape = self.shapes[kind]
        if fitting and self.chance.random() < 0.7:
            return self.chance.choice(fitting)
        if shape[0] == "tags":
            return ("tag", self.chance.choice(shape[1]))
        return ("pair", self.leaf(shape[1], around), self.leaf(shape[2], around))

    def body(self, kind, around, depth):
        if depth == 0 or self.chance.random() < 0.1:
            return self.leaf(kind, around)
        makers = [self.part, self.choose, self.choose, self.ask, self.ask, self.let, self.pair]
        return self.chance.choice(makers)(kind, around, depth - 1)

    def pair(self, kind, around, depth):
        shape = self.shapes[kind]
        if shape[0] != "pair":
            return self.leaf(kind, around)
        return ("pair", self.body(shape[1], around, depth), self.body(shape[2], around, depth))

    def part(self, kind, around, depth):
        ways = [(word, pair) for pair, shape in self.shapes.items() if shape[0] == "pair"
                for word, own in zip(("one", "other"), shape[1:]) if own == kind]
        if not ways:
            return self.choose(kind, around, depth)
        word, pair = self.chance.choice(ways)
        return (word, self.body(pair, around, depth))

    def choose(self, kind, around, depth):
        by = self.chance.choice([one for one, shape in self.shapes.items() if shape[0] == "tags"])
        branches = tuple((tag, self.body(kind, around, depth)) for tag in self.shapes[by][1])
        return ("choose", self.body(by, around, depth), branches)

    def ask(self, kind, around, depth):
        fitting = [(f, parameters) for f, parameters, own in self.heads if own == kind]
        if not fitting:
            return self.leaf(kind, around)
        f, parameters = self.chance.choice(fitting)
        return ("ask", f, tuple(self.body(own, around, depth) for x, own in parameters))

    def let(self, kind, around, depth):
        if self.lets == 3:
            return self.leaf(kind, around)
        x = "uvw"[self.lets]
        self.lets += 1
        own = self.chance.choice(list(self.shapes))
        within = {**around, x: own}
        return ("let", x, own, self.body(own, within, depth), self.body(kind, within, depth))


def count_of(kinds, kind):
    shape = kinds[kind]
    if shape[0] == "tags":
        return 1 + len(shape[1])
    return 1 + count_of(kinds, shape[1]) * count_of(kinds, shape[2])


def heads_of(chance, kinds):
    heads = []
    for f in "fgh"[:chance.randint(1, 3)]:
        parameters, rows = [], 1
        for x in "xyz"[:chance.randint(0, 3)]:
            kind = chance.choice([kind for kind, shape in kinds])
            rows *= count_of(dict(kinds), kind)
            if rows <= MOST_ROWS:
                parameters.append((x, kind))
        heads.append((f, tuple(parameters), chance.choice([kind for kind, shape in kinds])))
    return heads


def book_of(seed):
    """The made-up book of a seed, with (kinds, definitions) as they were told."""
    chance = random.Random(seed)
    kinds = chance.choice(KIND_LISTS)
    heads = heads_of(chance, kinds)
    definitions = []
    for f, parameters, kind in heads:
        body = Maker(chance, kinds, heads).body(kind, dict(parameters), chance.randint(1, 4))
        definitions.append((f, parameters, kind, body))
    return Book(kinds, definitions)


def book_with(seed, kinds, fixed):
    """A made-up book that has these definitions, too, and asks them."""
    chance = random.Random(seed)
    heads = heads_of(chance, kinds)
    asked = heads + [(f, parameters, kind) for f, parameters, kind, body in fixed] * 2
    definitions = []
    for f, parameters, kind in heads:
        body = Maker(chance, kinds, asked).body(kind, dict(parameters), chance.randint(2, 4))
        definitions.append((f, parameters, kind, body))
    return Book(kinds, definitions + fixed)


def books(count, first=0):
    return [book_of(seed) for seed in range(first, first + count)]


def askings(book):
    return [(f, row) for f in book.names() for row in book.rows_of(f)]
