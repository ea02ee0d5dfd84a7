"""wantway.books: [10], the kind of a body and the least wrong place, in books and by kind_within."""

import random
import unittest

from wantway import errors
from wantway.bodies import part_at, parts, places
from wantway.books import Book, kind_within

KINDS = [
    ("unit", ("tags", ("U",))),
    ("bit", ("tags", ("NO", "YES"))),
    ("both", ("pair", "bit", "unit")),
    ("deep", ("pair", "both", "bit")),
]
U, YES, NONE = ("tag", "U"), ("tag", "YES"), ("tag", "NONE")
HEADS = [("f", (("x", "bit"), ("y", "unit")), "both"), ("g", (), "bit"), ("h", (("p", "both"),), "unit")]
RIGHT = [
    ("f", HEADS[0][1], "both", ("pair", ("name", "x"), ("name", "y"))),
    ("g", HEADS[1][1], "bit", YES),
    ("h", HEADS[2][1], "unit", ("other", ("name", "p"))),
]
BOOK = Book(KINDS, RIGHT)
AROUND = {"b": "bit", "u": "unit", "p": "both", "d": "deep"}


def name(x):
    return ("name", x)


def choose(body, *branches):
    return ("choose", body, branches)


def let(x, kind, one, other):
    return ("let", x, kind, one, other)


RIGHT_BODIES = [
    (U, "unit"),
    (YES, "bit"),
    (name("b"), "bit"),
    (name("d"), "deep"),
    (("pair", YES, U), "both"),
    (("pair", ("pair", YES, U), name("b")), "deep"),
    (("one", name("p")), "bit"),
    (("other", name("p")), "unit"),
    (("one", name("d")), "both"),
    (("other", ("one", name("d"))), "unit"),
    (choose(name("b"), ("NO", U), ("YES", name("u"))), "unit"),
    (choose(U, ("U", name("d"))), "deep"),
    (("ask", "g", ()), "bit"),
    (("ask", "f", (YES, name("u"))), "both"),
    (("ask", "h", (("ask", "f", (("ask", "g", ()), U)),)), "unit"),
    (let("x", "bit", YES, name("x")), "bit"),
    (let("x", "bit", name("x"), ("pair", name("x"), U)), "both"),
    (("pair", let("x", "bit", YES, name("x")), let("x", "unit", U, name("x"))), "both"),
    (let("x", "both", ("pair", YES, ("other", name("x"))), let("y", "bit", ("one", name("x")), name("y"))), "bit"),
]
WRONG_BODIES = [
    # No kind has the tag; the name isn't around; no kind has the shape.
    (NONE, ()),
    (("tag", "unit"), ()),
    (name("x"), ()),
    (("pair", U, YES), ()),
    (("pair", name("p"), U), ()),
    # E of one or other is no pair.
    (("one", YES), ()),
    (("other", name("u")), ()),
    # E of choose is not of tags; its tags; its branches.
    (choose(name("p"), ("NO", U), ("YES", U)), ()),
    (choose(name("p")), ()),
    (choose(name("b")), ()),
    (choose(name("b"), ("NO", U)), ()),
    (choose(name("b"), ("YES", U), ("NO", U)), ()),
    (choose(name("b"), ("NO", U), ("YES", U), ("U", U)), ()),
    (choose(name("b"), ("NO", U), ("NO", U)), ()),
    (choose(name("b"), ("U", U)), ()),
    (choose(name("b"), ("NO", U), ("YES", YES)), ()),
    (choose(name("b"), ("NO", YES), ("YES", U)), ()),
    # f is no definition, or has other parameters.
    (("ask", "none", ()), ()),
    (("ask", "b", ()), ()),
    (("ask", "g", (YES,)), ()),
    (("ask", "h", ()), ()),
    (("ask", "f", (YES,)), ()),
    (("ask", "f", (YES, U, U)), ()),
    (("ask", "f", (U, YES)), ()),
    (("ask", "h", (YES,)), ()),
    # E of a let isn't of K.
    (let("x", "bit", U, YES), ()),
    (let("x", "unit", name("b"), name("x")), ()),
    # A let whose name is around already, or whose K is no kind, whatever is in it.
    (let("b", "bit", YES, YES), ()),
    (let("b", "bit", NONE, NONE), ()),
    (let("b", "unit", NONE, ("one", U)), ()),
    (let("x", "none", YES, YES), ()),
    (let("x", "none", NONE, NONE), ()),
    (let("x", "YES", YES, name("x")), ()),
    (let("x", "bit", YES, let("x", "bit", YES, NONE)), (1,)),
    (let("x", "bit", let("x", "bit", YES, YES), NONE), (0,)),
    (("pair", let("x", "bit", YES, YES), name("x")), (1,)),
    (let("x", "bit", let("y", "bit", YES, YES), name("y")), (1,)),
    # Where a part is wrong, the part is told, the least place of such.
    (("one", ("one", NONE)), (0, 0)),
    (("pair", NONE, NONE), (0,)),
    (("pair", YES, NONE), (1,)),
    (("pair", ("one", ("other", U)), NONE), (0, 0)),
    (("pair", ("pair", YES, ("one", YES)), NONE), (0, 1)),
    (choose(NONE, ("A", U), ("B", NONE)), (0,)),
    (choose(name("p"), ("NO", U), ("YES", NONE)), (2,)),
    (choose(name("b"), ("NO", NONE), ("YES", NONE)), (1,)),
    (choose(name("b"), ("NO", U), ("YES", ("one", NONE))), (2, 0)),
    (("ask", "none", (YES, NONE)), (1,)),
    (("ask", "f", (name("x"), NONE)), (0,)),
    (let("x", "bit", U, NONE), (1,)),
    (let("x", "bit", name("y"), NONE), (0,)),
    (let("x", "bit", YES, ("one", name("x"))), (1,)),
]


def oracle(around, body):
    """The kind of a body, or the list of all its wrong places, by [10] word by word."""
    heads = {f: (parameters, kind) for f, parameters, kind in HEADS}
    shapes = dict(KINDS)
    if body[0] == "let":
        if body[1] in around or body[2] not in shapes:
            return [()]
        around = {**around, body[1]: body[2]}
    told = [oracle(around, part) for part in parts(body)]
    wrong = [(at,) + place for at, one in enumerate(told) if isinstance(one, list) for place in one]
    if wrong:
        return wrong
    kinds = []
    if body[0] == "tag":
        kinds = [kind for kind, shape in KINDS if shape[0] == "tags" and body[1] in shape[1]]
    elif body[0] == "name":
        kinds = [kind for x, kind in around.items() if x == body[1]]
    elif body[0] == "pair":
        kinds = [kind for kind, shape in KINDS if shape == ("pair", told[0], told[1])]
    elif body[0] in ("one", "other"):
        shape = shapes[told[0]]
        kinds = [shape[1 if body[0] == "one" else 2]] if shape[0] == "pair" else []
    elif body[0] == "choose":
        shape = shapes[told[0]]
        if shape == ("tags", tuple(tag for tag, branch in body[2])) and len(set(told[1:])) == 1:
            kinds = told[1:2]
    elif body[0] == "ask":
        if body[1] in heads and [kind for x, kind in heads[body[1]][0]] == told:
            kinds = [heads[body[1]][1]]
    elif told[0] == body[2]:
        kinds = told[1:]
    return kinds[0] if kinds else [()]


def any_body(chance, deep):
    """Some body, mostly of things that are there."""
    words = ["tag", "name"] if deep == 0 else ["tag", "name", "pair", "one", "other", "choose", "ask", "let"]
    word = chance.choice(words)
    within = lambda: any_body(chance, deep - 1)
    if word == "tag":
        return (word, chance.choice(["U", "NO", "YES", "YES", "NONE"]))
    if word == "name":
        return (word, chance.choice(["b", "u", "p", "d", "x", "y"]))
    if word == "pair":
        return (word, within(), within())
    if word in ("one", "other"):
        return (word, within())
    if word == "choose":
        tags = chance.choice([("U",), ("NO", "YES"), ("NO", "YES"), ("YES", "NO")])
        return (word, within(), tuple((tag, within()) for tag in tags))
    if word == "ask":
        return (word, chance.choice("fghk"), tuple(within() for number in range(chance.choice([0, 1, 2]))))
    return (word, chance.choice("xyzb"), chance.choice(["unit", "bit", "both", "deep", "none"]), within(), within())


class KindWithinTest(unittest.TestCase):
    def test_right_bodies(self):
        for body, kind in RIGHT_BODIES:
            self.assertEqual(kind_within(BOOK, AROUND, body), kind, body)

    def test_wrong_bodies(self):
        for body, place in WRONG_BODIES:
            self.assertIsNone(kind_within(BOOK, AROUND, body), body)

    def test_names_around(self):
        self.assertIsNone(kind_within(BOOK, {}, name("b")))
        self.assertEqual(kind_within(BOOK, {"x": "unit"}, name("x")), "unit")
        self.assertEqual(kind_within(BOOK, {}, let("b", "bit", YES, name("b"))), "bit")
        self.assertIsNone(kind_within(BOOK, {"x": "bit"}, let("x", "bit", YES, YES)))

    def test_the_dict_stays(self):
        around = dict(AROUND)
        for body, told in RIGHT_BODIES + WRONG_BODIES:
            kind_within(BOOK, around, body)
            self.assertEqual(around, AROUND)


class PlacesTest(unittest.TestCase):
    def book_of(self, body, kind):
        return Book(KINDS, RIGHT + [("k", tuple(AROUND.items())[:3], kind, body)])

    def place_of(self, body, kind):
        with self.assertRaises(errors.NoBook) as caught:
            self.book_of(body, kind)
        self.assertEqual(caught.exception.number, 3)
        return caught.exception.place

    def test_right_bodies(self):
        for body, kind in RIGHT_BODIES:
            if name("d") not in [part_at(body, place) for place in places(body)]:
                self.assertEqual(self.book_of(body, kind).body_of("k"), body)
                for other, shape in KINDS:
                    if other != kind:
                        self.assertEqual(self.place_of(body, other), ())

    def test_wrong_bodies(self):
        for body, place in WRONG_BODIES:
            for kind, shape in KINDS:
                self.assertEqual(self.place_of(body, kind), place, body)

    def test_a_wrong_part_goes_before_another_kind_of_the_whole(self):
        self.assertEqual(self.place_of(let("x", "bit", YES, ("pair", U, YES)), "unit"), (1,))

    def test_any_bodies(self):
        chance = random.Random(10)
        right = wrong = 0
        around = dict(list(AROUND.items())[:3])
        while right < 400 or wrong < 400:
            body = any_body(chance, chance.choice([1, 2, 3]))
            told = oracle(around, body)
            if isinstance(told, list):
                wrong += 1
                self.assertIsNone(kind_within(BOOK, around, body), body)
                self.assertEqual(self.place_of(body, "bit"), min(told), body)
            else:
                right += 1
                self.assertEqual(kind_within(BOOK, around, body), told, body)
                self.assertEqual(self.book_of(body, told).kind_of("k"), told)

    def test_limits_and_somewhat_beyond(self):
        body = name("p")
        for number in range(5):
            body = ("pair", ("one", body), U)
        self.assertEqual(kind_within(BOOK, AROUND, body), "both")
        for x in ("v", "w", "x"):
            body = let(x, "both", body, body)
        self.assertEqual(kind_within(BOOK, AROUND, body), "both")
        body = name("p")
        for number in range(60):
            body = ("pair", ("one", body), U)
        self.assertEqual(kind_within(BOOK, AROUND, body), "both")


if __name__ == "__main__":
    unittest.main()
