"""wantway.bodies: [8] and, as far as it speaks of them, [2]."""

import unittest

from helpers import assert_own_list
from wantway.bodies import part_at, parts, places, with_parts

A = ("tag", "A")
B = ("name", "b")
C = ("one", ("name", "c"))
D = ("other", ("name", "d"))
PAIR = ("pair", A, B)
CHOOSE = ("choose", B, (("NO", A), ("YES", C)))
ASK = ("ask", "f", (A, B, C))
LET = ("let", "x", "bit", C, D)
ALL = {
    A: (),
    B: (),
    PAIR: (A, B),
    C: (("name", "c"),),
    D: (("name", "d"),),
    CHOOSE: (B, A, C),
    ASK: (A, B, C),
    ("ask", "f", ()): (),
    LET: (C, D),
}
BIG = ("let", "x", "bit", CHOOSE, ("pair", ASK, ("one", LET)))


def forty():
    """A body of forty bodies in all: one pair within another, askings and tags behind."""
    body = ("ask", "f", (A,) * 3)
    for number in range(9):
        body = ("pair", body, ("ask", "f", (("tag", "B"), ("name", "x"))))
    return body


def twelve():
    """Twelve bodies within one another, three lets among them."""
    body = ("name", "x")
    for number in range(4):
        body = ("one", ("other", body))
    for name in "pqr":
        body = ("let", name, "bit", A, body)
    return body


def places_by_steps(body):
    """The places of a body, built anew from what [8] says, in no order."""
    found = [()]
    for place in found:
        found.extend(place + (number,) for number in range(len(parts(part_at(body, place)))))
    return found


class PartsTest(unittest.TestCase):
    def test_parts(self):
        for body, some in ALL.items():
            self.assertIs(type(parts(body)), tuple)
            self.assertEqual(parts(body), some)

    def test_with_its_own_parts(self):
        for body in list(ALL) + [BIG, forty(), twelve()]:
            self.assertEqual(with_parts(body, parts(body)), body)

    def test_with_others(self):
        self.assertEqual(with_parts(A, ()), A)
        self.assertEqual(with_parts(B, ()), B)
        self.assertEqual(with_parts(PAIR, (C, D)), ("pair", C, D))
        self.assertEqual(with_parts(C, (A,)), ("one", A))
        self.assertEqual(with_parts(D, (A,)), ("other", A))
        self.assertEqual(with_parts(CHOOSE, (D, B, A)), ("choose", D, (("NO", B), ("YES", A))))
        self.assertEqual(with_parts(ASK, (C, A, D)), ("ask", "f", (C, A, D)))
        self.assertEqual(with_parts(LET, (A, B)), ("let", "x", "bit", A, B))

    def test_with_other_parts_of_a_list(self):
        for body, some in ALL.items():
            handed = [("tag", "OTHER") for part in some]
            kept = list(handed)
            self.assertEqual(parts(with_parts(body, handed)), tuple(kept))
            self.assertEqual(handed, kept)


class PlacesTest(unittest.TestCase):
    def test_by_hand(self):
        self.assertEqual(places(A), [()])
        self.assertEqual(places(PAIR), [(), (0,), (1,)])
        self.assertEqual(places(C), [(), (0,)])
        self.assertEqual(places(CHOOSE), [(), (0,), (1,), (2,), (2, 0)])
        self.assertEqual(places(ASK), [(), (0,), (1,), (2,), (2, 0)])
        self.assertEqual(places(LET), [(), (0,), (0, 0), (1,), (1, 0)])
        self.assertEqual(
            places(BIG),
            [
                (), (0,), (0, 0), (0, 1), (0, 2), (0, 2, 0),
                (1,), (1, 0), (1, 0, 0), (1, 0, 1), (1, 0, 2), (1, 0, 2, 0),
                (1, 1), (1, 1, 0), (1, 1, 0, 0), (1, 1, 0, 0, 0), (1, 1, 0, 1), (1, 1, 0, 1, 0),
            ],
        )

    def test_sorted_and_all_there(self):
        for body in list(ALL) + [BIG, forty(), twelve()]:
            self.assertEqual(places(body), sorted(places_by_steps(body)))

    def test_more_than_ten_parts_are_sorted_by_number(self):
        wide = ("ask", "f", (A,) * 12)
        self.assertEqual(places(wide), [()] + [(number,) for number in range(12)])

    def test_limits_and_somewhat_beyond(self):
        self.assertEqual(len(places(forty())), 40)
        self.assertEqual(max(len(place) for place in places(twelve())) + 1, 12)
        deep = twelve()
        for number in range(20):
            deep = ("pair", deep, ("tag", "T"))
        self.assertEqual(part_at(deep, (0,) * 20), twelve())

    def test_a_new_list_each_time(self):
        for body in (A, BIG):
            assert_own_list(self, lambda: places(body))

    def test_part_at(self):
        self.assertEqual(part_at(BIG, ()), BIG)
        self.assertEqual(part_at(BIG, (0,)), CHOOSE)
        self.assertEqual(part_at(BIG, (0, 0)), B)
        self.assertEqual(part_at(BIG, (0, 1)), A)
        self.assertEqual(part_at(BIG, (0, 2, 0)), ("name", "c"))
        self.assertEqual(part_at(BIG, (1, 0)), ASK)
        self.assertEqual(part_at(BIG, (1, 0, 1)), B)
        self.assertEqual(part_at(BIG, (1, 1, 0)), LET)
        self.assertEqual(part_at(BIG, (1, 1, 0, 1)), D)

    def test_part_at_every_place(self):
        for body in list(ALL) + [BIG, forty(), twelve()]:
            for place in places(body):
                part = body
                for number in place:
                    part = parts(part)[number]
                self.assertEqual(part_at(body, place), part)


if __name__ == "__main__":
    unittest.main()
