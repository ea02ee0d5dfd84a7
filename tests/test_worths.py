"""wantway.worths: [6], [7] and, as far as it speaks of them, [2]."""

import unittest

from helpers import assert_only, assert_own_list
from wantway import errors
from wantway.kinds import Kinds
from wantway.worths import is_under, is_whole, joined, part_of, unknown_ways

KINDS = Kinds([
    ("bit", ("tags", ("NO", "YES"))),
    ("unit", ("tags", ("U",))),
    ("both", ("pair", "bit", "unit")),
    ("deep", ("pair", "unit", "both")),
    ("wide", ("pair", "bit", "bit")),
])
DEEP = ((None, "A"), ("B", ("C", None)))


def steps_under(worth):
    """All worths under one, built anew from what [6] says."""
    if worth is None:
        return [None]
    if isinstance(worth, str):
        return [None, worth]
    return [None] + [(one, other) for one in steps_under(worth[0]) for other in steps_under(worth[1])]


class UnderTest(unittest.TestCase):
    def test_each_two_worths_of_a_kind(self):
        for kind in KINDS.names():
            for one in KINDS.worths_of(kind):
                for other in KINDS.worths_of(kind):
                    self.assertIs(is_under(one, other), one in steps_under(other), (one, other))

    def test_some_by_hand(self):
        self.assertIs(is_under(None, None), True)
        self.assertIs(is_under(None, "NO"), True)
        self.assertIs(is_under("NO", None), False)
        self.assertIs(is_under("NO", "NO"), True)
        self.assertIs(is_under("NO", "YES"), False)
        self.assertIs(is_under(None, (None, None)), True)
        self.assertIs(is_under((None, None), None), False)
        self.assertIs(is_under((None, "U"), ("NO", "U")), True)
        self.assertIs(is_under(("NO", None), (None, "U")), False)
        self.assertIs(is_under(("NO", "U"), ("NO", None)), False)


class JoinedTest(unittest.TestCase):
    def test_each_two_worths_of_a_kind(self):
        clashes = 0
        for kind in KINDS.names():
            worths = KINDS.worths_of(kind)
            for one in worths:
                for other in worths:
                    above = [worth for worth in worths if is_under(one, worth) and is_under(other, worth)]
                    least = [worth for worth in above if all(is_under(worth, more) for more in above)]
                    if above:
                        self.assertEqual([joined(one, other)], least)
                    else:
                        clashes += 1
                        self.refused(one, other)
        self.assertGreater(clashes, 0)

    def refused(self, one, other):
        with self.assertRaises(errors.NoWorth) as caught:
            joined(one, other)
        assert_only(self, caught.exception, errors.NoWorth)

    def test_some_by_hand(self):
        self.assertIsNone(joined(None, None))
        self.assertEqual(joined(None, "NO"), "NO")
        self.assertEqual(joined("NO", None), "NO")
        self.assertEqual(joined("NO", "NO"), "NO")
        self.assertEqual(joined((None, "U"), ("NO", None)), ("NO", "U"))
        self.assertEqual(joined((None, None), None), (None, None))
        self.assertEqual(joined(("U", None), (None, ("NO", None))), ("U", ("NO", None)))
        self.refused("NO", "YES")
        self.refused(("NO", "U"), ("YES", None))
        self.refused(("U", ("NO", None)), (None, ("YES", "U")))


class WholeTest(unittest.TestCase):
    def test_all_worths(self):
        for kind in KINDS.names():
            for worth in KINDS.worths_of(kind):
                self.assertIs(is_whole(worth), worth in KINDS.wholes_of(kind))

    def test_some_by_hand(self):
        self.assertIs(is_whole(None), False)
        self.assertIs(is_whole("NO"), True)
        self.assertIs(is_whole((None, "U")), False)
        self.assertIs(is_whole(("NO", None)), False)
        self.assertIs(is_whole(("NO", "U")), True)
        self.assertIs(is_whole(("U", ("NO", None))), False)
        self.assertIs(is_whole(("U", ("NO", "U"))), True)


class PartsTest(unittest.TestCase):
    def test_at_no_way(self):
        for worth in (None, "A", (None, None), DEEP):
            self.assertEqual(part_of(worth, ()), worth)

    def test_at_ways(self):
        self.assertEqual(part_of(DEEP, (0,)), (None, "A"))
        self.assertEqual(part_of(DEEP, (1,)), ("B", ("C", None)))
        self.assertIsNone(part_of(DEEP, (0, 0)))
        self.assertEqual(part_of(DEEP, (0, 1)), "A")
        self.assertEqual(part_of(DEEP, (1, 0)), "B")
        self.assertEqual(part_of(DEEP, (1, 1)), ("C", None))
        self.assertEqual(part_of(DEEP, (1, 1, 0)), "C")
        self.assertIsNone(part_of(DEEP, (1, 1, 1)))

    def test_behind_none_and_behind_a_tag(self):
        for way in ((0,), (1,), (0, 1), (1, 0, 1)):
            self.assertIsNone(part_of(None, way))
            self.assertIsNone(part_of("A", way))
            self.assertIsNone(part_of("AB", way))
            self.assertIsNone(part_of(("A", None), (0,) + way))
            self.assertIsNone(part_of(("A", None), (1,) + way))


class UnknownWaysTest(unittest.TestCase):
    def test_by_hand(self):
        self.assertEqual(unknown_ways(None), [()])
        self.assertEqual(unknown_ways("A"), [])
        self.assertEqual(unknown_ways((None, None)), [(0,), (1,)])
        self.assertEqual(unknown_ways(("A", None)), [(1,)])
        self.assertEqual(unknown_ways((None, "A")), [(0,)])
        self.assertEqual(unknown_ways(("A", "B")), [])
        self.assertEqual(unknown_ways(DEEP), [(0, 0), (1, 1, 1)])
        self.assertEqual(unknown_ways(((None, None), (None, None))), [(0, 0), (0, 1), (1, 0), (1, 1)])
        self.assertEqual(unknown_ways((None, (None, "A"))), [(0,), (1, 0)])

    def test_all_worths(self):
        for kind in KINDS.names():
            for worth in KINDS.worths_of(kind):
                ways = unknown_ways(worth)
                self.assertEqual(ways, sorted(ways))
                self.assertEqual(ways == [], is_whole(worth))
                for way in ways:
                    self.assertIsNone(part_of(worth, way))
                    self.assertTrue(way == () or isinstance(part_of(worth, way[:-1]), tuple))

    def test_a_new_list_each_time(self):
        for worth in (None, "A", DEEP):
            assert_own_list(self, lambda: unknown_ways(worth))


if __name__ == "__main__":
    unittest.main()
