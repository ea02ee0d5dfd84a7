"""wantway.rowlooks: [28], [29], rows that are alike or part, stands that have no more, and what shows it."""

import copy
import random
import unittest

import rowsamples
from helpers import assert_only, assert_own_list
from rowsamples import BEAT, DOWN, ROUND, STOP, behind, rows
from wantway.errors import NoAsking
from wantway.made import heads, more, rest
from wantway.rowlooks import alike, are_ended, are_pairs, ended
from wantway.rows import Rows

BACK = ("back", "not", ("NO",))


class AlikeTest(unittest.TestCase):
    def same(self, one, other, some=None):
        some = some or rows()
        for first, second in ((one, other), (other, one)):
            told = alike(some, first, second)
            self.assertEqual((type(told), told[0], type(told[1])), (tuple, "alike", list))
            self.assertIs(are_pairs(some, first, second, told[1]), True)
            self.assertEqual(heads(some, first, 100), heads(some, second, 100))
        return told[1]

    def part(self, one, other, n, some=None):
        some = some or rows()
        self.assertEqual(alike(some, one, other), ("part", n))
        self.assertEqual(alike(some, other, one), ("part", n))
        self.assertEqual(heads(some, one, n), heads(some, other, n))
        self.assertNotEqual(heads(some, one, n + 1), heads(some, other, n + 1))

    def test_one_row_and_itself(self):
        for made in (BEAT, BACK, ROUND, DOWN, STOP, ("each", "is", (DOWN, BEAT)), behind("AB", DOWN)):
            self.same(made, made)

    def test_made_in_different_ways(self):
        self.same(BEAT, BACK)
        self.same(BEAT, behind(["NO"], ("from", "beat", ("YES",))))
        self.same(BEAT, behind(["NO", "YES", "NO"], ("back", "not", ("YES",))))
        self.same(BEAT, ("each", "not", (("back", "not", ("YES",)),)))
        self.same(ROUND, ("back", "turn", ("B",)))
        self.same(behind("A", ROUND), ("each", "turn", (("from", "round", ("C",)),)))
        self.same(("back", "odd", ("NO", "YES", "NO")), BEAT)
        self.same(("back", "never", (None,)), ("each", "never", (BEAT,)))
        self.same(("from", "beat", (None,)), ("each", "never", (BEAT,)))

    def test_ending(self):
        self.same(DOWN, behind("CBA", STOP))
        self.same(DOWN, behind("CB", ("from", "down", ("A",))))
        self.same(STOP, ("from", "pass", ("A",)))
        self.same(STOP, ("from", "pass", ("C",)))
        self.same(STOP, ("each", "turn", (STOP,)))
        self.same(("each", "is", (DOWN, BEAT)), ("each", "is", (DOWN, behind(["NO"], ("back", "not", ("YES",))))))

    def test_parting(self):
        self.part(BEAT, ("from", "beat", ("YES",)), 0)
        self.part(BEAT, ("from", "beat", (None,)), 0)
        self.part(BEAT, behind(["NO"], BEAT), 1)
        self.part(BEAT, behind(["NO", "YES", "NO", "YES"], behind(["NO"], BEAT)), 5)
        self.part(BEAT, behind(["NO", "YES", "NO", "YES"], ("from", "dim", ())), 4)
        self.part(("from", "round", ("C",)), DOWN, 1)

    def test_where_just_one_has_more(self):
        self.part(STOP, ROUND, 0)
        self.part(DOWN, behind("CBA", ROUND), 3)
        self.part(DOWN, behind("CB", STOP), 2)
        self.part(STOP, DOWN, 0)
        # A head of None is one, all the same.
        self.part(("each", "never", (BEAT,)), ("each", "is", (STOP, BEAT)), 0)
        self.part(("each", "is", (DOWN, ("back", "never", (None,)))), ("each", "is", (DOWN, BEAT)), 1)
        never = ("each", "is", (behind("BB", STOP), ("back", "never", (None,))))
        self.part(never, ("back", "never", (None,)), 2)

    def test_far_on(self):
        some = rowsamples.long_rows()
        clock, bruijn = ("from", "clock", ("P", "A")), ("back", "bruijn", ("A", "A"))
        flat = ("each", "flat", (clock, bruijn))
        pairs = self.same(flat, ("each", "flat", (("back", "next", ("B",)), bruijn)), some)
        self.assertEqual(len(pairs), 13 * 16)
        self.same(flat, flat, some)
        self.part(clock, ("back", "next", ("A",)), 13, some)
        self.part(("back", "next", ("A",)), behind("ABCD", behind("ABCD", behind("ABCD", behind("AB", clock)))), 14, some)

    def test_pairs_are_as_many_as_must_be(self):
        self.assertEqual(len(self.same(BEAT, BACK)), 2)
        self.assertEqual(len(self.same(BEAT, behind(["NO", "YES"], BACK))), 4)
        self.assertEqual(len(self.same(STOP, STOP)), 1)
        self.assertEqual(len(self.same(DOWN, DOWN)), 4)


class ArePairsTest(unittest.TestCase):
    PAIRS = [(BEAT, BACK), (("from", "beat", ("YES",)), ("back", "not", ("YES",)))]

    def shows(self, answer, pairs, one=BEAT, other=BACK):
        self.assertIs(are_pairs(rows(), one, other, pairs), answer)

    def test_in_any_order_and_twice(self):
        self.shows(True, self.PAIRS)
        self.shows(True, self.PAIRS[::-1])
        self.shows(True, self.PAIRS + self.PAIRS)
        self.shows(True, self.PAIRS, self.PAIRS[1][0], self.PAIRS[1][1])

    def test_with_pairs_of_other_rows(self):
        self.shows(True, self.PAIRS + [(STOP, STOP)])
        self.shows(True, self.PAIRS + [(STOP, ("from", "pass", ("A",)))])
        self.shows(False, self.PAIRS + [(STOP, ROUND)])
        self.shows(False, self.PAIRS + [(DOWN, DOWN)])
        self.shows(False, [(STOP, STOP)])

    def test_left_out(self):
        self.shows(False, [])
        self.shows(False, self.PAIRS[:1])
        self.shows(False, self.PAIRS[1:])
        self.shows(False, self.PAIRS, BACK, BEAT)
        self.shows(False, self.PAIRS, BEAT, BEAT)

    def test_bent(self):
        one, other = self.PAIRS
        self.shows(False, [one, (other[1], other[0])])
        self.shows(False, [one, (other[0], BACK)])
        self.shows(False, [one, other, (BEAT, other[1])])
        self.shows(False, [one, (other[0], ("from", "beat", ("YES",)))])
        self.shows(False, [one, (("from", "beat", ("A",)), other[1])])
        self.shows(False, [one, other, (("from", "none", ()), STOP)])

    def test_of_rows_that_part(self):
        # Alike in all heads but that one ends, or but for a head.
        self.shows(False, [(STOP, ROUND)], STOP, ROUND)
        self.shows(False, [(ROUND, STOP)], ROUND, STOP)
        one, other = behind("A", STOP), behind("B", STOP)
        self.shows(False, [(one, other), (STOP, STOP)], one, other)
        self.shows(True, [(one, one), (STOP, STOP)], one, one)
        one, other = behind("A", STOP), behind("A", ROUND)
        self.shows(False, [(one, other), (STOP, ROUND)], one, other)


class EndedTest(unittest.TestCase):
    ENDED = [("stop", ()), ("down", (None,)), ("pass", (None,)), ("pass", ("A",)), ("pass", ("C",))]

    def test_what_has_no_more(self):
        some = rows()
        for stand in self.ENDED:
            told = ended(some, *stand)
            self.assertIs(type(told), list)
            self.assertIn(stand, told)
            self.assertIs(are_ended(some, stand[0], stand[1], told), True)
        self.assertEqual(sorted(ended(some, "pass", ("C",))), [("pass", ("A",)), ("pass", ("C",))])

    def test_what_has_more(self):
        some = rows()
        for stand in rowsamples.stands(some):
            if stand not in self.ENDED:
                self.assertIsNone(ended(some, *stand))
                self.assertIs(are_ended(some, stand[0], stand[1], [stand]), False)
                self.assertIs(are_ended(some, stand[0], stand[1], [stand] + self.ENDED), False)

    def test_round_and_round(self):
        told = [(r, (), "three", ("on", following, ())) for r, following in zip("abcd", "bcdb")]
        some = Rows(rowsamples.book(), told)
        for r, count in zip("abcd", (4, 3, 3, 3)):
            self.assertEqual(len(ended(some, r, ())), count)
            self.assertIs(are_ended(some, r, (), ended(some, r, ())), True)
        ring = [(r, ()) for r in "bcd"]
        for at in range(3):
            self.assertIs(are_ended(some, "b", (), ring[:at] + ring[at + 1:]), False)
            self.assertIs(are_ended(some, "b", (), ring[at:] + ring[:at]), True)

    def test_stands_that_show_nothing(self):
        some = rows()
        one, other = ("pass", ("C",)), ("pass", ("A",))
        for stands, answer in (
                ([one, other], True), ([other, one], True), ([one, one, other], True), ([one], False), ([other], False),
                ([], False), ([one, other, ("stop", ())], True), ([one, other, ("pass", ("B",))], False),
                ([one, other, ("beat", ("NO",))], False), ([one, ("pass", ("B",))], False),
                ([one, other, ("down", ("C",))], False), ([one, other, ("pass", ("Z",))], False),
                ([one, other, ("none", ())], False), ([one, other, ("pass", ())], False),
                ([one, other, ("stop", (None,))], False), ([("none", ())], False)):
            self.assertIs(are_ended(some, "pass", ("C",), stands), answer)

    def test_no_asking(self):
        some = rows()
        for r, worths in (("none", ()), ("", ()), ("not", ("NO",)), ("round", ()), ("round", ("A", "A")),
                          ("round", ("NO",)), ("round", (0,)), ("stop", (None,)), ("beat", (("NO", "NO"),))):
            with self.assertRaises(NoAsking) as caught:
                ended(some, r, worths)
            assert_only(self, caught.exception, NoAsking)
            for stands in ([], [("stop", ())], [(r, worths)]):
                with self.assertRaises(NoAsking) as caught:
                    are_ended(some, r, worths, stands)
                assert_only(self, caught.exception, NoAsking)


class MadeUpTest(unittest.TestCase):
    def test_alike_by_heads(self):
        seen = {"alike": 0, "part": 0}
        for seed in range(150):
            some = rowsamples.made_up_rows(seed)
            chance = random.Random(seed)
            kind = chance.choice(("bit", "three"))
            mades = [rowsamples.made_row(chance, some, kind, chance.randint(0, 3)) for again in range(4)]
            mades += [rest(some, made) for made in mades if more(some, made)]
            found = {made: rowsamples.heads_of(some, made, 250) for made in mades}
            for one in mades:
                for other in mades:
                    told = alike(some, one, other)
                    seen[told[0]] += 1
                    self.look(some, one, other, told, found)
        self.assertGreater(min(seen.values()), 500)

    def look(self, some, one, other, told, found):
        first, second = found[one], found[other]
        if told[0] == "alike":
            self.assertEqual(first, second)
            self.assertIs(are_pairs(some, one, other, told[1]), True)
            for at in range(min(len(told[1]), 6)):
                self.assertIs(are_pairs(some, one, other, told[1][:at] + told[1][at + 1:]), False)
            return
        at = 0
        while first[at:at + 1] == second[at:at + 1]:
            at += 1
        self.assertEqual(told, ("part", at))

    def test_ended_by_heads(self):
        seen = {True: 0, False: 0}
        for seed in range(200):
            some = rowsamples.made_up_rows(seed)
            every = rowsamples.stands(some)
            without = [stand for stand in every if not rowsamples.heads_of(some, ("from",) + stand, 1)]
            for stand in every:
                told = ended(some, *stand)
                seen[told is None] += 1
                self.assertEqual(told is None, stand not in without)
                self.assertIs(are_ended(some, stand[0], stand[1], without), stand in without)
                self.assertIs(are_ended(some, stand[0], stand[1], every), without == every)
                if told is not None:
                    self.assertIs(are_ended(some, stand[0], stand[1], told), True)
        self.assertGreater(min(seen.values()), 50)


class OwnTest(unittest.TestCase):
    def test_the_askers_own(self):
        some = rows()
        assert_own_list(self, lambda: alike(some, BEAT, BACK)[1])
        assert_own_list(self, lambda: ended(some, "pass", ("C",)))

    def test_what_is_handed_in_stays(self):
        some = rows()
        pairs = alike(some, BEAT, BACK)[1] * 2
        kept = copy.deepcopy(pairs)
        are_pairs(some, BEAT, BACK, pairs)
        self.assertEqual(pairs, kept)
        stands = [("pass", ("C",)), ("pass", ("A",)), ("none", ())]
        kept = copy.deepcopy(stands)
        are_ended(some, "pass", ("C",), stands)
        self.assertEqual(stands, kept)

    def test_asked_in_another_order(self):
        one_rows, same = rows(), rows()
        ended(same, "pass", ("C",))
        alike(same, DOWN, ROUND)
        for made in (BEAT, BACK, behind(["NO"], BEAT)):
            self.assertEqual(alike(one_rows, BEAT, made), alike(same, BEAT, made))


if __name__ == "__main__":
    unittest.main()
