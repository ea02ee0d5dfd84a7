"""wantway.ways: [21] ways of doing, [22] the least way."""

import copy
import random
import unittest

import countdown
import madeup
import wants
from helpers import assert_only, assert_own_list, born
from samples import KINDS, NO, NO_ASKINGS, YES, ask, book, choose, let, name, one, other, pair
from wantway.books import Book
from wantway.errors import NoAsking, NoMost
from wantway.walks import asked
from wantway.ways import is_way, way_of

NOT = ("not", (("x", "bit"),), "bit", choose(name("x"), YES, NO))
AND = ("and", (("x", "bit"), ("y", "bit")), "bit", choose(name("x"), NO, name("y")))
LOOP = ("loop", (), "bit", ask("loop"))


def book_of(kind, body, parameters=()):
    return Book(KINDS, [("f", parameters, kind, body), NOT, AND, LOOP])


# f asks and of two askings; the cells are c, its first and its second argument.
BOTH = book_of("bit", ask("and", ask("not", NO), ask("not", YES)))
C, FIRST, SECOND = born(()), born((0,)), born((1,))
LEAST = [(FIRST, YES, []), (SECOND, NO, []), (C, NO, [FIRST, SECOND]), ((), NO, [C])]
PARTS = book_of("both", pair(ask("not", name("x")), one(name("p"))), (("x", "bit"), ("p", "both")))
PART, OTHER = born((0,)), born((1,))
HEAD = ((), ("pair", ("cell", PART), ("cell", OTHER)), [])


class WayOfTest(unittest.TestCase):
    def test_by_hand(self):
        self.assertEqual(way_of(BOTH, "f", (), 500), LEAST)
        self.assertEqual(way_of(BOTH, "f", (), 4), LEAST)
        self.assertEqual(way_of(book_of("bit", NO), "f", (), 1), [((), NO, [])])
        row = ("NO", ("YES", None))
        self.assertEqual(way_of(PARTS, "f", row, 500), [HEAD])
        self.assertEqual(way_of(PARTS, "f", row, 500, True), [HEAD, (PART, YES, []), (OTHER, YES, [])])
        self.assertEqual(way_of(PARTS, "f", row, 500, whole=True), [HEAD, (PART, YES, []), (OTHER, YES, [])])

    def test_wants_are_told_once_and_by_when_they_are_wanted_first(self):
        body = let("y", "bit", ask("not", NO), choose(name("y"), NO, ask("and", name("y"), name("y"))))
        y, last = born((0,)), born((1, 2))
        self.assertEqual(way_of(book_of("bit", body), "f", (), 500),
                         [(y, YES, []), (last, YES, [y]), ((), YES, [y, last])])
        body = let("y", "both", pair(ask("not", NO), NO), choose(other(name("y")), one(name("y")), NO))
        y, part = born((0,)), born((0,), (0, 0))
        self.assertEqual(way_of(book_of("bit", body), "f", (), 500),
                         [(y, ("pair", ("cell", part), NO), []), (part, YES, []), ((), YES, [y, part])])

    def test_where_no_worth_is_told(self):
        self.assertIsNone(way_of(BOTH, "f", (), 3))
        self.assertIsNone(way_of(BOTH, "loop", (), 500))
        self.assertIsNone(way_of(BOTH, "not", (None,), 500))
        self.assertIsNone(way_of(book_of("bit", let("y", "bit", name("y"), name("y"))), "f", (), 500))
        self.assertIsNone(way_of(PARTS, "f", (None, ("YES", None)), 500, True))
        self.assertIsNone(way_of(PARTS, "f", ("NO", ("YES", None)), 2, True))
        self.assertEqual(way_of(PARTS, "f", (None, None), 500), [HEAD])

    def test_the_cells_done_by_want_in_that_order(self):
        for the_book in madeup.books(60):
            for f, row in madeup.askings(the_book):
                for whole in (False, True):
                    outcome, done = asked(the_book, f, row, 30, whole)
                    way = way_of(the_book, f, row, 30, whole)
                    self.assertEqual(way is None, outcome[0] != "worth")
                    if way is not None:
                        self.assertEqual([birth for birth, head, its_wants in way], [birth for birth, wanter in done])
                        self.assertEqual(way, wants.walk(the_book, f, row, 30, whole)[2])

    def test_refusals(self):
        for f, worths in NO_ASKINGS:
            for most in (7, 0, 501):
                with self.assertRaises(NoAsking) as caught:
                    way_of(book(), f, worths, most)
                assert_only(self, caught.exception, NoAsking)
        for most in (0, -1, 501):
            with self.assertRaises(NoMost) as caught:
                way_of(book(), "loop", (), most)
            assert_only(self, caught.exception, NoMost)

    def test_the_askers_own(self):
        assert_own_list(self, lambda: way_of(BOTH, "f", (), 500))
        assert_own_list(self, lambda: way_of(BOTH, "f", (), 500)[2][2])


class IsWayTest(unittest.TestCase):
    def told(self, answer, rows, the_book=BOTH, worths=(), whole=False):
        kept = copy.deepcopy(rows)
        self.assertIs(is_way(the_book, "f", worths, rows, whole), answer, rows)
        self.assertEqual(rows, kept)

    def test_the_least_way(self):
        self.told(True, LEAST)
        self.told(True, LEAST, whole=True)

    def test_another_order_that_keeps_what_stands_ahead(self):
        self.told(True, [LEAST[1], LEAST[0]] + LEAST[2:])

    def test_a_wanted_cell_behind_the_one_that_wants_it(self):
        for order in ((0, 2, 1, 3), (2, 0, 1, 3), (0, 1, 3, 2), (3, 2, 1, 0), (3, 0, 1, 2), (1, 2, 0, 3)):
            self.told(False, [LEAST[at] for at in order])

    def test_without_a_row(self):
        self.told(False, [])
        for at in range(4):
            self.told(False, LEAST[:at] + LEAST[at + 1:])

    def test_a_row_twice(self):
        for at in range(4):
            self.told(False, LEAST + [LEAST[at]])
            self.told(False, [LEAST[at]] + LEAST)

    def test_another_head(self):
        heads = [YES, NO, ("tag", "U"), ("tag", "A"), ("tag", "NONE"), ("pair", NO, NO), ("pair", ("cell", C), NO),
                 ("pair", ("given", 0, ()), ("given", 7, (0, 1))), ("pair", ("given", -1, (1,)), ("cell", ()))]
        for at, (birth, head, its_wants) in enumerate(LEAST):
            for other_head in heads:
                if other_head != head:
                    self.told(False, LEAST[:at] + [(birth, other_head, its_wants)] + LEAST[at + 1:])

    def test_other_wants(self):
        for at, (birth, head, its_wants) in enumerate(LEAST):
            others = [[], [FIRST], [SECOND], [C], [()], [SECOND, FIRST], [FIRST, SECOND, FIRST], [FIRST, FIRST, SECOND],
                      [C, C], [FIRST, SECOND, C], [birth], [born((5,))], [born((0,), (0,))], [C, born((5,))]]
            for other_wants in others:
                if other_wants != its_wants:
                    self.told(False, LEAST[:at] + [(birth, head, other_wants)] + LEAST[at + 1:])

    def test_a_cell_that_is_wanted_again_is_told_once(self):
        the_book = book_of("bit", let("y", "bit", ask("not", NO), ask("and", name("y"), name("y"))))
        y, last = born((0,)), born((1,))
        self.told(True, [(y, YES, []), (last, YES, [y]), ((), YES, [last])], the_book)
        self.told(False, [(y, YES, []), (last, YES, [y, y]), ((), YES, [last])], the_book)

    def test_births_of_no_cell(self):
        for birth in (born((5,)), born((0,), (0,)), born((-1,)), born((0, 0)), born((), ()), born((1,), (), (2,)),
                      born((0,) * 30)):
            for at in range(5):
                self.told(False, LEAST[:at] + [(birth, YES, [])] + LEAST[at:])
            self.told(False, [(birth, YES, [])] + LEAST[1:])

    def test_cells_more_that_are_wanted_by_none(self):
        the_book = book_of("bit", ask("and", NO, ask("not", ask("not", NO))))
        c, spare, deeper = born(()), born((1,)), born((1, 0))
        least = [(c, NO, []), ((), NO, [c])]
        self.assertEqual(way_of(the_book, "f", (), 500), least)
        self.told(True, least, the_book)
        self.told(True, least + [(deeper, YES, [])], the_book)
        self.told(True, [(deeper, YES, [])] + least, the_book)
        self.told(True, least + [(deeper, YES, []), (spare, NO, [deeper])], the_book)
        self.told(True, [(deeper, YES, []), least[0], (spare, NO, [deeper]), least[1]], the_book)
        self.told(False, least + [(spare, NO, [deeper])], the_book)
        self.told(False, least + [(spare, NO, [deeper]), (deeper, YES, [])], the_book)
        self.told(False, least + [(deeper, NO, [])], the_book)

    def test_a_cell_more_whose_maker_is_not_there(self):
        inner = pair(ask("not", NO), NO)
        the_book = book_of("bit", one(pair(NO, other(inner))))
        spare = born((0, 1))
        self.told(True, [((), NO, [])], the_book)
        self.told(True, [((), NO, []), (spare, NO, [])], the_book)
        self.told(False, [((), NO, []), (born((0, 1), (0, 1, 0, 0)), YES, [])], the_book)
        made = [((), NO, []), (spare, NO, []), (born((0, 1), (0, 1, 0, 0)), YES, [])]
        self.told(True, made, the_book)
        self.told(True, made[::-1], the_book)
        self.told(False, made[:1] + made[2:], the_book)

    def test_a_branch_that_is_not_taken_makes_nothing(self):
        the_book = book_of("both", choose(NO, pair(NO, ask("not", NO)), pair(ask("not", NO), NO)))
        way = [((), ("pair", NO, ("cell", born((1, 1)))), [])]
        self.told(True, way, the_book)
        self.told(True, way + [(born((1, 1)), YES, [])], the_book)
        self.told(False, way + [(born((2, 0)), YES, [])], the_book)

    def test_whole(self):
        worths = ("NO", ("YES", None))
        whole = [HEAD, (PART, YES, []), (OTHER, YES, [])]
        self.told(True, whole, PARTS, worths, True)
        self.told(True, whole[::-1], PARTS, worths, True)
        self.told(True, whole, PARTS, worths)
        for rows in (whole[:1], whole[:2], whole[::2]):
            self.told(True, rows, PARTS, worths)
            self.told(False, rows, PARTS, worths, True)
        self.told(False, whole[1:], PARTS, worths, True)

    def test_the_whole_of_parts_in_parts(self):
        the_book = book_of("deep", pair(("tag", "U"), pair(ask("not", NO), ask("not", YES))))
        inner = born((1,))
        first, second = (inner, (1, 0)), (inner, (1, 1))
        rows = [((), ("pair", ("tag", "U"), ("cell", inner)), []), (inner, ("pair", ("cell", first), ("cell", second)), []),
                (first, YES, []), (second, NO, [])]
        self.told(True, rows, the_book, whole=True)
        for at in range(1, 4):
            self.told(True, rows[:at], the_book)
            self.told(False, rows[:at], the_book, whole=True)
        self.told(False, rows[:2] + rows[3:], the_book, whole=True)

    def test_the_whole_of_what_is_given(self):
        the_book = book_of("deep", pair(("tag", "U"), name("p")), (("p", "both"),))
        way = [((), ("pair", ("tag", "U"), ("given", 0, ())), [])]
        for worth in (None, (None, None), ("NO", None), (None, "NO"), ("NO", "NO")):
            self.told(True, way, the_book, (worth,))
            self.told(worth == ("NO", "NO"), way, the_book, (worth,), True)
        for i, given_way in ((1, ()), (-1, ()), (0, (0,)), (0, (2,)), (0, (-1,)), (0, (0, 0, 0)), (10 ** 9, (1,))):
            wrong = [((), ("pair", ("tag", "U"), ("given", i, given_way)), [])]
            for whole in (False, True):
                self.told(False, wrong, the_book, (("NO", "NO"),), whole)

    def test_heads_of_another_kind_in_what_others_want(self):
        # Of a wrong head nothing may be taken for granted, wherever it is taken.
        body = let("y", "deep", pair(("tag", "U"), pair(ask("not", NO), NO)), one(other(name("y"))))
        the_book = book_of("bit", body)
        way = way_of(the_book, "f", (), 500)
        self.told(True, way, the_book)
        junk = [NO, ("tag", ""), ("pair", NO, NO), ("pair", ("cell", ()), ("cell", born((0,)))),
                ("pair", ("given", 5, ()), ("given", -3, (0, 1, 0))), ("pair", ("given", 0, (9, -9)), ("given", 0, ())),
                ("pair", ("cell", born((9, 9), (9,))), ("cell", born((9, 9), (9,))))]
        for at, (birth, head, its_wants) in enumerate(way):
            for wrong in junk:
                if wrong != head:
                    self.told(False, way[:at] + [(birth, wrong, its_wants)] + way[at + 1:], the_book)

    def test_where_nothing_comes(self):
        ring = book_of("bit", let("y", "bit", name("y"), name("y")))
        y = born((0,))
        for head in (NO, YES):
            self.told(False, [(y, head, [y]), ((), head, [y])], ring)
            self.told(False, [(y, head, []), ((), head, [y])], ring)
        never = book_of("bit", name("x"), (("x", "bit"),))
        for head in (NO, YES, ("pair", NO, NO)):
            self.told(False, [((), head, [])], never, (None,))
        self.told(True, [((), NO, [])], never, ("NO",))

    def test_no_asking(self):
        for f, worths in NO_ASKINGS:
            with self.assertRaises(NoAsking) as caught:
                is_way(book(), f, worths, [])
            assert_only(self, caught.exception, NoAsking)

    def test_far_down(self):
        the_book = countdown.book("xyz", "", ("tag", "D"))
        way = way_of(the_book, "f", ("D", "D", "D"), 500)
        self.assertEqual(len(way), 442)
        self.assertIs(is_way(the_book, "f", ("D", "D", "D"), way), True)
        # The same by births of other tuples.
        same = [(rebuilt(birth), head, [rebuilt(other_birth) for other_birth in its_wants])
                for birth, head, its_wants in way]
        self.assertIs(is_way(the_book, "f", ("D", "D", "D"), same), True)
        self.assertIs(is_way(the_book, "f", ("D", "D", "D"), same[::-1]), False)
        deepest, head, its_wants = same[0]
        self.assertIs(is_way(the_book, "f", ("D", "D", "D"), [((deepest, ()), head, [])] + same), False)
        self.assertIs(is_way(the_book, "f", ("D", "D", "D"), [(deepest, ("tag", "A"), [])] + same[1:]), False)


def rebuilt(birth):
    places = []
    while birth != ():
        birth, place = birth
        places.append(tuple(list(place)))
    return born(*reversed(places))


class MadeUpWaysTest(unittest.TestCase):
    def test_by_a_second_reading(self):
        chance = random.Random(21)
        answers = {True: 0, False: 0}
        for the_book in madeup.books(150, first=900):
            for f, row in chance.sample(madeup.askings(the_book), k=min(6, len(madeup.askings(the_book)))):
                for whole in (False, True):
                    way = way_of(the_book, f, row, 20, whole)
                    if way is None:
                        continue
                    for again in range(6):
                        turned = turned_way(chance, the_book, f, row, way)
                        for asked_whole in (False, True):
                            answer = wants.way_is_right(the_book, f, row, turned, asked_whole)
                            self.assertIs(is_way(the_book, f, row, turned, asked_whole), answer)
                            answers[answer] += 1
                            if answer and asked_whole == whole:
                                self.assertTrue(all(line in turned for line in way))
        self.assertGreater(min(answers.values()), 300)

    def test_what_is_done_ahead_of_its_want(self):
        # All cells that can be done, done: the least way's rows stand in it.
        more = 0
        for the_book in madeup.books(150, first=1200):
            for f, row in madeup.askings(the_book)[::5]:
                least = way_of(the_book, f, row, 20)
                if least is None:
                    continue
                way = grown(the_book, f, row, least)
                self.assertIs(is_way(the_book, f, row, way), True)
                self.assertTrue(all(line in way for line in least))
                more += len(way) > len(least)
        self.assertGreater(more, 20)


def grown(the_book, f, row, least):
    """A way with cells more: what is made by cells of it, done as soon as all that it wants is there."""
    way = list(least)
    heads = {birth: head for birth, head, its_wants in way}
    starts = {(): wants.start_of_asking(the_book, f, row)}
    makers = [birth for birth in sorted(heads, key=lambda birth: str(birth).count("("))]
    for maker in makers:
        if maker in starts:
            wants.go(the_book, row, starts, maker, heads.get)
    for birth in [birth for birth in starts if birth not in heads]:
        wanted = []

        def want(other_birth):
            if other_birth not in heads:
                raise wants.Stop(("unfit",))
            if other_birth not in wanted:
                wanted.append(other_birth)
            return heads[other_birth]

        try:
            head = wants.go(the_book, row, starts, birth, want)
        except wants.Stop:
            continue
        heads[birth] = head
        way.append((birth, head, wanted))
    return way


def turned_way(chance, the_book, f, row, way):
    """A way with up to two turns that may make it wrong."""
    way = [(birth, head, list(its_wants)) for birth, head, its_wants in way]
    if chance.random() < 0.5:
        way = grown(the_book, f, row, way)
    births = [birth for birth, head, its_wants in way]
    heads = [head for birth, head, its_wants in way] + [NO, ("pair", ("given", 0, ()), ("cell", chance.choice(births)))]
    for again in range(chance.randint(0, 2)):
        if not way:
            break
        at = chance.randrange(len(way))
        birth, head, its_wants = way[at]
        turn = chance.randint(0, 5)
        if turn == 0:
            del way[at]
        elif turn == 1:
            way.append(way.pop(at))
        elif turn == 2:
            way[at] = (birth, chance.choice(heads), its_wants)
        elif turn == 3:
            way[at] = (birth, head, [other_birth for other_birth in its_wants if chance.random() < 0.7])
        elif turn == 4:
            way[at] = ((birth, (chance.randint(0, 2),)), head, its_wants)
        else:
            way.insert(chance.randrange(len(way) + 1), way.pop(at))
    return way


if __name__ == "__main__":
    unittest.main()
