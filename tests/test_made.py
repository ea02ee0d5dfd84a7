"""wantway.made: [27], made rows, their heads and rests."""

import random
import unittest

import rowsamples
from helpers import assert_only, assert_own_list
from rowsamples import BEAT, DOWN, ROUND, ROWS, STOP, behind, rows
from wantway.errors import NoAsking, NoMore
from wantway.made import head, heads, more, rest


class MadeTest(unittest.TestCase):
    def steps(self, made, its_head, its_rest, some=None):
        """A made row has more, with this head and this rest."""
        some = some or rows()
        self.assertIs(more(some, made), True)
        self.assertEqual(head(some, made), its_head)
        self.assertEqual(rest(some, made), its_rest)
        self.assertEqual(heads(some, made, 1), [its_head])

    def ends(self, made, some=None):
        """A made row has no more."""
        some = some or rows()
        self.assertIs(more(some, made), False)
        for ask in (head, rest):
            with self.assertRaises(NoMore) as caught:
                ask(some, made)
            assert_only(self, caught.exception, NoMore)
        for n in (0, 1, 2000):
            self.assertEqual(heads(some, made, n), [])

    def goes(self, made, found, n=None):
        """The first heads of a made row, or all."""
        self.assertEqual(heads(rows(), made, len(found) if n is None else n), found)

    def test_from_a_stand_that_leads_to_a_head(self):
        self.steps(BEAT, "NO", ("from", "beat", ("YES",)))
        self.steps(("from", "round", ("C",)), "C", ("from", "round", ("A",)))
        self.steps(("from", "dim", ()), None, ("from", "beat", ("NO",)))
        self.steps(("from", "beat", (None,)), None, ("from", "beat", (None,)))

    def test_from_a_stand_that_leads_on(self):
        self.steps(DOWN, "C", ("from", "down", ("B",)))
        self.goes(DOWN, ["C", "B", "A"], 7)
        told = [(r, (), "three", ("on", following, ())) for r, following in zip("abcde", "bcdef")]
        told.append(("f", (), "three", ("then", ("tag", "A"), "c", ())))
        some = rowsamples.Rows(rowsamples.book(), told)
        self.steps(("from", "a", ()), "A", ("from", "c", ()), some)
        self.steps(("from", "f", ()), "A", ("from", "c", ()), some)

    def test_from_a_stand_that_comes_to_nothing_or_round(self):
        for stand in (("stop", ()), ("down", (None,)), ("pass", (None,)), ("pass", ("A",)), ("pass", ("C",))):
            self.ends(("from",) + stand)
        told = [(r, (), "three", ("on", following, ())) for r, following in zip("abcd", "bcdb")]
        some = rowsamples.Rows(rowsamples.book(), told)
        for r in "abcd":
            self.ends(("from", r, ()), some)

    def test_back(self):
        self.steps(("back", "not", ("NO",)), "NO", ("back", "not", ("YES",)))
        self.steps(("back", "not", (None,)), None, ("back", "not", (None,)))
        self.steps(("back", "turn", ("C",)), "C", ("back", "turn", ("A",)))
        self.steps(("back", "and", ("YES", "NO")), "YES", ("back", "and", ("NO", "NO")))
        self.steps(("back", "and", ("NO", None)), "NO", ("back", "and", (None, "NO")))
        self.steps(("back", "and", (None, "NO")), None, ("back", "and", ("NO", None)))
        self.steps(("back", "odd", ("YES", "NO", "NO")), "YES", ("back", "odd", ("NO", "NO", "YES")))
        self.steps(("back", "odd", ("YES", "NO", None)), "YES", ("back", "odd", ("NO", None, None)))
        self.steps(("back", "never", ("YES",)), "YES", ("back", "never", (None,)))
        self.goes(("back", "odd", ("YES", "NO", "NO")), ["YES", "NO", "NO", "YES", "YES", "NO", "NO", "YES"])

    def test_each(self):
        self.steps(("each", "not", (BEAT,)), "YES", ("each", "not", (("from", "beat", ("YES",)),)))
        made = ("each", "and", (BEAT, ("back", "not", ("YES",))))
        self.steps(made, "NO", ("each", "and", (("from", "beat", ("YES",)), ("back", "not", ("NO",)))))
        self.goes(("each", "is", (ROUND, BEAT)), ["NO", "YES", "NO", "YES", "YES", "NO"])
        self.goes(("each", "never", (BEAT,)), [None] * 5)
        self.goes(("each", "and", (("from", "dim", ()), BEAT)), [None, "NO", "NO", "NO", "NO"])

    def test_each_whose_parts_end(self):
        self.goes(("each", "turn", (DOWN,)), ["A", "C", "B"], 9)
        self.goes(("each", "is", (DOWN, BEAT)), ["YES", "YES", "NO"], 9)
        self.goes(("each", "is", (behind("AB", STOP), BEAT)), ["NO", "YES"], 9)
        self.goes(("each", "is", (behind("AB", DOWN), BEAT)), ["NO", "YES", "YES", "YES", "NO"], 9)
        self.ends(("each", "is", (STOP, BEAT)))
        self.ends(("each", "is", (("from", "pass", ("A",)), BEAT)))
        self.ends(("each", "turn", (STOP,)))
        # The one that ends first is the second, or both end at once.
        told = ROWS[:5] + [("end", (), "bit", ("by", ("ask", "loop", ()), (("NO", ("on", "end", ())),
                                                                          ("YES", ("on", "end", ())))))]
        some = rowsamples.Rows(rowsamples.book(), told)
        end = ("from", "end", ())
        self.assertEqual(heads(some, ("each", "is", (ROUND, behind(["YES", "NO"], end))), 9), ["YES", "YES"])
        self.assertEqual(heads(some, ("each", "is", (behind("AB", STOP), behind(["YES", "NO"], end))), 9), ["NO", "NO"])
        self.assertEqual(heads(some, ("each", "is", (behind("B", STOP), behind(["YES", "NO"], end))), 9), ["YES"])
        self.ends(("each", "is", (ROUND, end)), some)
        self.ends(("each", "is", (STOP, end)), some)

    def test_behind(self):
        self.steps(behind(["YES"], BEAT), "YES", BEAT)
        self.steps(behind(["YES", "NO"], BEAT), "YES", behind(["NO"], BEAT))
        self.steps(behind("ABCA", DOWN), "A", behind("BCA", DOWN))
        self.goes(behind("AAB", DOWN), ["A", "A", "B", "C", "B", "A"], 10)
        self.steps(behind("B", STOP), "B", STOP)
        self.goes(behind("B", STOP), ["B"], 10)

    def test_within_one_another(self):
        made = behind(["YES"], ("each", "and", (behind(["NO", "YES"], BEAT), behind(["YES"], ("back", "not", ("NO",))))))
        self.goes(made, ["YES", "NO", "NO", "NO", "NO", "NO", "NO"])
        self.steps(made, "YES", made[2])
        self.steps(made[2], "NO", ("each", "and", (behind(["YES"], BEAT), ("back", "not", ("NO",)))))
        made = behind("A", behind("B", behind("C", DOWN)))
        self.goes(made, ["A", "B", "C", "C", "B", "A"], 10)
        made = ("each", "is", (behind("A", behind("CB", ROUND)), ("back", "and", ("YES", None))))
        self.goes(made, ["NO", "YES", None, None, "YES", "NO"])

    def test_heads(self):
        some = rows()
        for n in (0, 1, 2, 3, 2000):
            self.assertEqual(heads(some, BEAT, n), (["NO", "YES"] * 1000)[:n])
            self.assertEqual(heads(some, DOWN, n), ["C", "B", "A"][:n])
            self.assertEqual(heads(some, ("each", "turn", (ROUND,)), n), (["C", "A", "B"] * 700)[:n])
            self.assertEqual(heads(some, ("back", "never", ("NO",)), n), (["NO"] + [None] * 2000)[:n])

    def test_what_is_no_stand(self):
        for made in (("from", "none", ()), ("from", "beat", ()), ("from", "beat", ("A",))):
            for ask in (more, head, rest):
                with self.assertRaises(NoAsking):
                    ask(rows(), made)


class MadeUpTest(unittest.TestCase):
    def test_by_a_second_reading(self):
        lengths = []
        for seed in range(120):
            some = rowsamples.made_up_rows(seed)
            chance = random.Random(seed)
            for again in range(12):
                made = rowsamples.made_row(chance, some, chance.choice(("bit", "three")), chance.randint(0, 3))
                found = rowsamples.heads_of(some, made, 40)
                lengths.append(len(found))
                self.assertEqual(heads(some, made, 40), found)
                self.assertEqual(heads(some, made, 7), found[:7])
                self.follows(some, made, found)
        self.assertGreater(lengths.count(40), 200)
        self.assertGreater(lengths.count(0), 20)
        self.assertGreater(len([1 for length in lengths if 0 < length < 40]), 50)

    def follows(self, some, made, found):
        """head, rest and more go along the heads."""
        for at, one in enumerate(found[:12]):
            self.assertIs(more(some, made), True)
            self.assertEqual(head(some, made), one)
            made = rest(some, made)
            self.assertEqual(heads(some, made, 5), found[at + 1:at + 6])
        if len(found) < 12:
            self.assertIs(more(some, made), False)


class OwnTest(unittest.TestCase):
    def test_the_askers_own(self):
        some = rows()
        assert_own_list(self, lambda: heads(some, BEAT, 5))
        assert_own_list(self, lambda: heads(some, STOP, 5))
        assert_own_list(self, lambda: heads(some, BEAT, 0))

    def test_asked_in_another_order(self):
        one_rows, same = rows(), rows()
        mades = [BEAT, ROUND, DOWN, STOP, ("each", "is", (DOWN, BEAT)), behind(["YES"], ("from", "dim", ()))]
        told = [heads(same, made, 9) for made in reversed(mades)]
        self.assertEqual([heads(one_rows, made, 9) for made in mades], told[::-1])


if __name__ == "__main__":
    unittest.main()
