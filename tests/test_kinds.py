"""wantway.kinds: [4], [5], [6] and, as far as it speaks of them, [2]."""

import unittest

from helpers import assert_only, assert_own_list
from wantway import errors
from wantway.kinds import Kinds

BIT = ("bit", ("tags", ("NO", "YES")))
TINT = ("tint", ("tags", ("RED", "GREEN", "BLUE")))
UNIT = ("unit", ("tags", ("U",)))
FOUR = ("four", ("tags", ("A", "B", "C", "D")))
BOTH = ("both", ("pair", "bit", "unit"))
DEEP = ("deep", ("pair", "both", "unit"))
SIX = [BIT, TINT, UNIT, FOUR, BOTH, DEEP]


def tags(name, *some):
    return (name, ("tags", some))


def pair(name, one, other):
    return (name, ("pair", one, other))


class LikeAll:
    """A thing that says of itself that it is like everything."""

    def __eq__(self, other):
        return True


class KindsTest(unittest.TestCase):
    def refused(self, told):
        kept = list(told)
        with self.assertRaises(errors.NoKinds) as caught:
            Kinds(told)
        assert_only(self, caught.exception, errors.NoKinds)
        self.assertEqual(told, kept)


class NamesAndTagsTest(KindsTest):
    def test_names(self):
        for name in ("a", "z", "abcdefgh", "stuvwxyz"):
            self.assertEqual(Kinds([tags(name, "A")]).names(), [name])

    def test_no_names(self):
        wrong = ["", "abcdefghi", "A", "aB", "Ab", "a1", "1", "a b", " a", "a ", " ", "a_b", "a-b", "`", "{", "~"]
        wrong += [None, True, 5, b"a", ("a",)]
        for name in wrong:
            self.refused([tags(name, "A")])

    def test_tags(self):
        for tag in ("A", "Z", "ABCDEFGH", "STUVWXYZ"):
            self.assertEqual(Kinds([tags("a", tag)]).worths_of("a"), [None, tag])

    def test_no_tags(self):
        wrong = ["", "ABCDEFGHI", "a", "Ab", "aB", "A1", "1", "A B", " A", "A ", " ", "A_B", "A-B", "@", "[", "~"]
        wrong += [None, True, 5, b"A", ("A",)]
        for tag in wrong:
            self.refused([tags("a", tag)])
            self.refused([tags("a", "OK", tag)])


class ToldTest(KindsTest):
    def test_one_and_six_kinds(self):
        self.assertEqual(Kinds([BIT]).names(), ["bit"])
        self.assertEqual(Kinds(SIX).names(), ["bit", "tint", "unit", "four", "both", "deep"])

    def test_no_kinds_and_seven(self):
        self.refused([])
        self.refused(SIX + [tags("seven", "SEVEN")])
        self.refused(SIX + [tags("seven", "SEVEN"), tags("eight", "EIGHT")])

    def test_a_name_twice(self):
        self.refused([BIT, tags("bit", "OTHER")])
        self.refused([BIT, TINT, pair("bit", "bit", "tint")])
        self.refused([BIT, pair("two", "bit", "bit"), tags("two", "OTHER")])

    def test_one_and_four_tags(self):
        self.assertEqual(Kinds([UNIT]).shape_of("unit"), ("tags", ("U",)))
        self.assertEqual(Kinds([FOUR]).shape_of("four"), ("tags", ("A", "B", "C", "D")))

    def test_no_tags_and_five(self):
        self.refused([tags("a")])
        self.refused([tags("a", "A", "B", "C", "D", "E")])

    def test_a_tag_twice(self):
        self.refused([tags("a", "A", "A")])
        self.refused([tags("a", "A", "B", "A")])
        self.refused([tags("a", "A", "B"), tags("b", "C", "B")])

    def test_a_pair_of_kinds_told_ahead(self):
        kinds = Kinds([BIT, UNIT, pair("p", "unit", "bit"), pair("q", "bit", "bit")])
        self.assertEqual(kinds.shape_of("p"), ("pair", "unit", "bit"))
        self.assertEqual(kinds.shape_of("q"), ("pair", "bit", "bit"))

    def test_a_pair_of_others(self):
        self.refused([BIT, pair("p", "p", "bit")])
        self.refused([BIT, pair("p", "bit", "p")])
        self.refused([BIT, pair("p", "bit", "unit"), UNIT])
        self.refused([BIT, pair("p", "unit", "bit"), UNIT])
        self.refused([BIT, pair("p", "bit", "none")])
        self.refused([BIT, pair("p", "none", "bit")])
        self.refused([BIT, pair("p", "bit", "")])
        self.refused([BIT, pair("p", "NO", "YES")])
        self.refused([pair("p", "p", "p")])

    def test_two_pairs_of_one_shape(self):
        self.refused([BIT, UNIT, pair("p", "bit", "unit"), pair("q", "bit", "unit")])
        told = [BIT, UNIT, pair("p", "bit", "unit"), pair("q", "unit", "bit")]
        self.assertEqual(Kinds(told).names(), ["bit", "unit", "p", "q"])

    def test_pairs_two_and_three_within_one_another(self):
        two = [UNIT, pair("p", "unit", "unit"), pair("q", "unit", "p"), pair("r", "p", "p")]
        kinds = Kinds(two)
        self.assertEqual(len(kinds.worths_of("q")), 11)
        self.assertEqual(len(kinds.worths_of("r")), 26)
        self.refused(two + [pair("s", "q", "unit")])
        self.refused(two + [pair("s", "unit", "q")])

    def test_thirty_worths_and_more(self):
        # No kind has just thirty worths: 29 is no product of two numbers of worths.
        told = [UNIT, BIT, TINT, pair("p", "unit", "bit")]
        self.assertEqual(len(Kinds(told + [pair("q", "p", "tint")]).worths_of("q")), 29)
        told = [BIT, pair("p", "bit", "bit")]
        self.refused(told + [pair("q", "bit", "p")])
        self.refused(told + [pair("q", "p", "bit")])
        self.refused(told + [pair("q", "p", "p")])

    def test_another_shape(self):
        self.refused([("a", ("tag", ("A",)))])
        self.refused([("a", ("", ("A",)))])
        self.refused([("a", ("Tags", ("A",)))])
        self.refused([("a", ("pair", ("A",)))])
        self.refused([BIT, ("a", ("pair", ("bit", "bit")))])
        self.refused([BIT, ("a", ("tags", "bit", "bit"))])
        self.refused([BIT, ("a", ("tags", "A", "B"))])
        self.refused([BIT, ("a", ("pairs", "bit", "bit"))])

    def test_a_wrong_one_anywhere(self):
        for at in range(6):
            self.refused(SIX[:at] + [("x", ("none", ("A",)))] + SIX[at + 1:])


class KeptTest(KindsTest):
    def test_what_is_handed_in_stays_and_may_be_changed_behind(self):
        told = list(SIX)
        kinds = Kinds(told)
        self.assertEqual(told, SIX)
        told[0] = tags("other", "OTHER")
        told.append(tags("more", "MORE"))
        self.assertEqual(kinds.names(), ["bit", "tint", "unit", "four", "both", "deep"])
        self.assertEqual(kinds.worths_of("bit"), [None, "NO", "YES"])
        self.assertIsNone(kinds.kind_of_tag("OTHER"))
        told.clear()
        self.assertEqual(len(kinds.names()), 6)

    def test_lists_are_the_askers_own(self):
        kinds = Kinds(SIX)
        asks = [
            kinds.names,
            lambda: kinds.worths_of("tint"), lambda: kinds.worths_of("deep"),
            lambda: kinds.wholes_of("tint"), lambda: kinds.wholes_of("both"),
        ]
        for ask in asks:
            assert_own_list(self, ask)


class WorthsTest(KindsTest):
    def setUp(self):
        self.kinds = Kinds(SIX)

    def test_worths_of_tags(self):
        self.assertEqual(self.kinds.worths_of("bit"), [None, "NO", "YES"])
        self.assertEqual(self.kinds.worths_of("tint"), [None, "RED", "GREEN", "BLUE"])
        self.assertEqual(self.kinds.worths_of("unit"), [None, "U"])
        self.assertEqual(self.kinds.worths_of("four"), [None, "A", "B", "C", "D"])

    def test_worths_of_pairs(self):
        both = [
            None,
            (None, None), (None, "U"),
            ("NO", None), ("NO", "U"),
            ("YES", None), ("YES", "U"),
        ]
        self.assertEqual(self.kinds.worths_of("both"), both)
        self.assertEqual(
            self.kinds.worths_of("deep"),
            [None] + [(one, other) for one in both for other in (None, "U")],
        )

    def test_the_whole_ones(self):
        self.assertEqual(self.kinds.wholes_of("bit"), ["NO", "YES"])
        self.assertEqual(self.kinds.wholes_of("unit"), ["U"])
        self.assertEqual(self.kinds.wholes_of("both"), [("NO", "U"), ("YES", "U")])
        self.assertEqual(self.kinds.wholes_of("deep"), [(("NO", "U"), "U"), (("YES", "U"), "U")])

    def test_shapes_and_heights(self):
        for name, shape in SIX:
            self.assertEqual(self.kinds.shape_of(name), shape)
        heights = [self.kinds.height_of(name) for name, shape in SIX]
        self.assertEqual(heights, [1, 1, 1, 1, 3, 5])
        kinds = Kinds([UNIT, pair("p", "unit", "unit"), pair("q", "p", "p")])
        self.assertEqual(kinds.height_of("q"), 7)

    def test_kind_of_each_tag(self):
        for name in ("bit", "tint", "unit", "four"):
            for tag in self.kinds.shape_of(name)[1]:
                self.assertEqual(self.kinds.kind_of_tag(tag), name)
        for none in ("E", "bit", "", "no", "RE"):
            self.assertIsNone(self.kinds.kind_of_tag(none))

    def test_kind_of_each_two_kinds(self):
        known = {("bit", "unit"): "both", ("both", "unit"): "deep"}
        for one in self.kinds.names():
            for other in self.kinds.names():
                self.assertEqual(self.kinds.kind_of_pair(one, other), known.get((one, other)))


class IsWorthTest(KindsTest):
    def setUp(self):
        self.kinds = Kinds(SIX)

    def test_of_all_worths_of_all_kinds(self):
        for kind in self.kinds.names():
            own = self.kinds.worths_of(kind)
            for other in self.kinds.names():
                for worth in self.kinds.worths_of(other):
                    self.assertIs(self.kinds.is_worth(kind, worth), worth in own)

    def test_of_pairs_of_worths_of_other_kinds(self):
        for thing in [("U", "NO"), ("NO", "NO"), ("RED", "U"), (None, "A"), (("NO", "U"), None)]:
            self.assertIs(self.kinds.is_worth("both", thing), False)
        for thing in [("NO", "U"), (("NO", "U"), "A"), (("U", "NO"), "U"), (None, (None, None))]:
            self.assertIs(self.kinds.is_worth("deep", thing), False)

    def test_of_what_is_none(self):
        ring = []
        ring.append(ring)
        deep = None
        for again in range(100000):
            deep = (deep, deep)
        wrong = [
            0, 1, -1, 10 ** 50, True, False, "", "no", "YE", "NO ", " ", "bit", "N", "YES" * 3, b"NO",
            [], ["NO"], ["NO", "U"], ["NO", "YES"], (), ("NO",), ("NO", "U", "U"), (None,), (None, None, None),
            ("NO", ["U"]), (["NO"], "U"), ("NO", True), (0, 1), (True, False), ("NO", ("U",)), ("NO", ()),
            {}, {"NO": "U"}, set(), frozenset(), {"NO", "U"}, object(), LikeAll(), len, Kinds, ring, range(2), deep,
        ]
        for thing in wrong:
            for kind in self.kinds.names():
                self.assertIs(self.kinds.is_worth(kind, thing), False)


if __name__ == "__main__":
    unittest.main()
