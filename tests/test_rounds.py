"""wantway.rounds: [28], the round of a made row."""

import random
import unittest

import rowsamples
from helpers import assert_own_list
from rowsamples import BEAT, DOWN, ROUND, STOP, behind, rows
from wantway.made import heads
from wantway.rounds import round_of


class RoundTest(unittest.TestCase):
    def rounds(self, made, stem, ring, some=None):
        told = round_of(some or rows(), made)
        self.assertEqual(told, ("round", stem, ring))
        self.assertIs(type(told), tuple)
        self.assertEqual([type(part) for part in told], [str, list, list])
        found = (stem + ring * 60)[:60]
        self.assertEqual(heads(some or rows(), made, len(found)), found)

    def ends(self, made, found):
        told = round_of(rows(), made)
        self.assertEqual(told, ("ends", found))
        self.assertIs(type(told[1]), list)
        self.assertEqual(heads(rows(), made, 2000), found)

    def test_from(self):
        self.rounds(BEAT, [], ["NO", "YES"])
        self.rounds(ROUND, [], ["B", "C", "A"])
        self.rounds(("from", "beat", (None,)), [], [None])
        self.rounds(("from", "dim", ()), [None], ["NO", "YES"])
        self.ends(DOWN, ["C", "B", "A"])

    def test_a_row_that_ends_at_once(self):
        self.ends(STOP, [])
        self.ends(("from", "pass", ("A",)), [])
        self.ends(("from", "pass", ("C",)), [])
        self.ends(("each", "turn", (STOP,)), [])

    def test_back(self):
        self.rounds(("back", "not", ("NO",)), [], ["NO", "YES"])
        self.rounds(("back", "turn", ("C",)), [], ["C", "A", "B"])
        self.rounds(("back", "never", ("YES",)), ["YES"], [None])
        self.rounds(("back", "never", (None,)), [], [None])
        self.rounds(("back", "and", ("YES", "NO")), ["YES"], ["NO"])
        self.rounds(("back", "and", ("YES", "YES")), [], ["YES"])
        self.rounds(("back", "and", (None, "NO")), [], [None, "NO"])
        self.rounds(("back", "and", ("NO", None)), [], ["NO", None])
        self.rounds(("back", "and", ("YES", None)), ["YES"], [None])
        self.rounds(("back", "odd", ("YES", "NO", "NO")), [], ["YES", "NO", "NO", "YES"])
        self.rounds(("back", "odd", ("NO", "YES", "NO")), [], ["NO", "YES"])
        self.rounds(("back", "odd", ("NO", "YES", None)), ["NO", "YES"], [None])

    def test_each(self):
        self.rounds(("each", "not", (BEAT,)), [], ["YES", "NO"])
        self.rounds(("each", "is", (ROUND, BEAT)), [], ["NO", "YES", "NO", "YES", "YES", "NO"])
        # Its parts come round after six, its heads sooner.
        self.rounds(("each", "and", (BEAT, ("back", "not", ("YES",)))), [], ["NO"])
        self.rounds(("each", "never", (BEAT,)), [], [None])
        self.rounds(("each", "and", (("from", "dim", ()), BEAT)), [None], ["NO"])
        self.ends(("each", "is", (DOWN, BEAT)), ["YES", "YES", "NO"])

    def test_behind(self):
        self.rounds(behind(["YES"], BEAT), [], ["YES", "NO"])
        self.rounds(behind(["NO"], BEAT), ["NO"], ["NO", "YES"])
        self.rounds(behind(["NO", "YES"], BEAT), [], ["NO", "YES"])
        self.rounds(behind(["NO", "NO", "YES"], BEAT), ["NO"], ["NO", "YES"])
        self.rounds(behind("CBA", ROUND), ["C", "B"], ["A", "B", "C"])
        self.rounds(behind("CAAA", ROUND), ["C", "A", "A"], ["A", "B", "C"])
        self.ends(behind("AB", STOP), ["A", "B"])
        self.ends(behind("AB", DOWN), ["A", "B", "C", "B", "A"])

    def test_within_one_another(self):
        made = ("each", "and", (behind(["NO", "YES"], BEAT), behind(["YES"], ("back", "not", ("NO",)))))
        self.rounds(made, [], ["NO"])
        self.rounds(behind(["YES"], made), ["YES"], ["NO"])
        self.rounds(behind(["NO"], made), [], ["NO"])
        self.rounds(behind("A", behind("B", behind("C", ROUND))), ["A", "B", "C"], ["B", "C", "A"])
        self.rounds(behind("C", behind("C", behind("A", ROUND))), ["C"], ["C", "A", "B"])
        self.ends(behind("A", ("each", "turn", (behind("B", DOWN),))), ["A", "C", "A", "C", "B"])

    def test_a_long_ring(self):
        some = rowsamples.long_rows()
        clock, bruijn = ("from", "clock", ("P", "A")), ("back", "bruijn", ("A", "A"))
        self.rounds(clock, [], list("ABCDABCDABCDA"), some)
        self.rounds(bruijn, [], list(rowsamples.BRUIJN), some)
        made = ("each", "sum", (clock, bruijn))
        word, stem, ring = round_of(some, made)
        self.assertEqual((word, stem, len(ring)), ("round", [], 13 * 16))
        self.assertEqual(heads(some, made, 2000), (ring * 10)[:2000])
        self.assertNotEqual(ring[:16] * 13, ring)
        self.rounds(("each", "flat", (clock, bruijn)), [], ["A"], some)
        following = ("back", "next", ("A",))
        self.rounds(("each", "sum", (following, following)), [], ["A", "C"], some)
        self.rounds(behind("BA", ("each", "flat", (clock, bruijn))), ["B"], ["A"], some)


def round_by_trying(found):
    """The least stem and ring of the first heads of a row, of which there are far more than both are long."""
    for stem in range(len(found)):
        for ring in range(1, len(found) // 3):
            if found[stem:-ring] == found[stem + ring:]:
                return (found[:stem], found[stem:stem + ring])


class MadeUpTest(unittest.TestCase):
    def test_by_trying(self):
        stems, rings, ends = {}, {}, 0
        for seed in range(150):
            some = rowsamples.made_up_rows(seed)
            chance = random.Random(seed)
            for again in range(8):
                made = rowsamples.made_row(chance, some, chance.choice(("bit", "three")), chance.randint(0, 3))
                found = rowsamples.heads_of(some, made, 240)
                told = round_of(some, made)
                if len(found) < 240:
                    self.assertEqual(told, ("ends", found))
                    ends += 1
                    continue
                self.assertEqual(told, ("round",) + round_by_trying(found))
                stems[len(told[1])] = True
                rings[len(told[2])] = True
        self.assertGreater(ends, 50)
        self.assertGreater(min(len(stems), len(rings)), 4)


class OwnTest(unittest.TestCase):
    def test_the_askers_own(self):
        some = rows()
        assert_own_list(self, lambda: round_of(some, DOWN)[1])
        assert_own_list(self, lambda: round_of(some, behind(["NO"], BEAT))[1])
        assert_own_list(self, lambda: round_of(some, behind(["NO"], BEAT))[2])

    def test_asked_in_another_order(self):
        one_rows, same = rows(), rows()
        mades = [BEAT, ROUND, DOWN, STOP, ("each", "is", (DOWN, BEAT)), behind(["YES"], ("from", "dim", ()))]
        told = [round_of(same, made) for made in reversed(mades)]
        self.assertEqual([round_of(one_rows, made) for made in mades], told[::-1])


if __name__ == "__main__":
    unittest.main()
