"""[1] to [3] over the whole program."""

import copy
import random
import unittest

import madeup
import rowsamples
import samples
import sheetsamples
from samples import NO, ask, choose, name
from wantway.ahead import ahead
from wantway.bodies import parts, places, with_parts
from wantway.books import Book, kind_within
from wantway.counts import by_names
from wantway.errors import NoPart
from wantway.kinds import Kinds
from wantway.made import heads, more, rest
from wantway.needs import is_needed, next_wanted, spared_by, walls_needed
from wantway.papers import is_paper, paper_of
from wantway.rounds import round_of
from wantway.rowlooks import alike, are_ended, are_pairs, ended
from wantway.rows import Rows
from wantway.sheet import Sheet
from wantway.sheetlooks import least, shows_least
from wantway.tables import round_of as round_of_asking
from wantway.tables import table_after, table_of, worth_of, worth_within
from wantway.trees import tree_of
from wantway.walks import asked
from wantway.walls import wall_of, wall_stands
from wantway.ways import is_way, way_of
from wantway.worths import is_under, is_whole, joined, unknown_ways

WAYS = [(), (0,), (1,), (0, 0), (0, 1), (1, 0), (1, 1)]


def books():
    """Books of several kinds and definitions, with pairs and without."""
    return [samples.book(), rowsamples.book(), sheetsamples.book()] + madeup.books(50, first=4000)


def parts_of_parameters(book):
    """(f, i, way, needed) of all parts of parameters of a book."""
    found = []
    for f in book.names():
        for i in range(len(book.parameters(f))):
            for way in WAYS:
                try:
                    found.append((f, i, way, is_needed(book, f, i, way)))
                except NoPart:
                    pass
    return found


class PromiseTest(unittest.TestCase):
    def test_one_worth_comes_or_none(self):
        outcomes = {}
        for book in books():
            notes = [(f, i, way) for f, i, way, needed in parts_of_parameters(book) if needed]
            table = table_of(book)
            for f, row in madeup.askings(book)[::2]:
                worth = table[(f, row)]
                self.assertEqual(worth_of(book, f, row), worth)
                self.shown(book, f, row, worth)
                for whole in (False, True):
                    outcome = self.walked(book, f, row, worth, whole, notes)
                    outcomes[outcome] = outcomes.get(outcome, 0) + 1
        self.assertEqual(sorted(outcomes), ["dry", "never", "ring", "worth"])

    def shown(self, book, f, row, worth):
        """A paper shows that the worth comes, a wall that no more comes; they meet."""
        paper, wall = paper_of(book, f, row), wall_of(book, f, row)
        self.assertIs(is_paper(book, paper), True)
        self.assertIs(wall_stands(book, wall), True)
        told = None
        for g, other, its_worth, rank in paper:
            if (g, other) == (f, row):
                told = joined(told, its_worth)
        self.assertEqual(told, worth)
        self.assertEqual([its_worth for g, other, its_worth in wall if (g, other) == (f, row)], [worth])

    def walked(self, book, f, row, worth, whole, notes):
        """By want, by names and done ahead this worth is told, or none."""
        outcome, done = asked(book, f, row, 60, whole)
        noted, noted_done = ahead(book, f, row, notes, 60, whole)
        named, count = by_names(book, f, row, 200, whole)
        births = [birth for birth, wanter in done]
        self.assertEqual(len(births), len(set(births)))
        way = way_of(book, f, row, 60, whole)
        if outcome[0] == "worth":
            head = (None, None) if isinstance(worth, tuple) else worth
            self.assertEqual(outcome[1], worth if whole else head)
            self.assertEqual(noted, outcome)
            self.assertEqual({birth for birth, wanter in noted_done}, set(births))
            self.assertIs(is_way(book, f, row, way, whole), True)
        else:
            self.assertIsNone(way)
            self.assertNotEqual(noted[0], "worth")
            if outcome[0] != "dry":
                self.assertFalse(is_whole(worth) if whole else worth is not None)
        if named[0] != "dry":
            self.assertEqual(named, outcome)
            self.assertGreaterEqual(count, len(done))
        return outcome[0]

    def test_what_is_needed_is_decided(self):
        seen = {True: 0, False: 0}
        for book in books():
            for f, i, way, needed in parts_of_parameters(book):
                walls, spared = walls_needed(book, f, i, way), spared_by(book, f, i, way)
                seen[needed] += 1
                self.assertEqual((walls is None, spared is None), (not needed, needed))
                if needed:
                    for wall in walls:
                        self.assertIs(wall_stands(book, wall), True)
                else:
                    row, paper = spared
                    self.assertIs(is_paper(book, paper), True)
                    self.assertTrue([1 for g, other, worth, rank in paper
                                     if (g, other) == (f, row) and worth is not None])
        self.assertGreater(min(seen.values()), 50)

    def test_rows_without_end(self):
        for seed in range(40):
            rows = rowsamples.made_up_rows(seed)
            chance = random.Random(seed)
            mades = [rowsamples.made_row(chance, rows, "bit", chance.randint(0, 3)) for again in range(4)]
            for one in mades:
                told = round_of(rows, one)
                if told[0] == "ends":
                    self.assertEqual(heads(rows, one, 2000), told[1])
                else:
                    self.assertEqual(heads(rows, one, 200), (told[1] + told[2] * 200)[:200])
                for other in mades:
                    # Two have one round just where they are alike.
                    answer = alike(rows, one, other)
                    self.assertEqual(answer[0] == "alike", round_of(rows, other) == told)
                    if answer[0] == "part":
                        n = answer[1]
                        self.assertEqual(heads(rows, one, n), heads(rows, other, n))
                        self.assertNotEqual(heads(rows, one, n + 1), heads(rows, other, n + 1))

    def test_sheets(self):
        for chance, book, cells, kinds in sheetsamples.made_up_sheets(40, first=7000):
            sheet = Sheet(book, cells)
            for again in range(5):
                worths = {x: worth for x, worth, rank in least(book, sheet.cells())}
                for x in chance.sample(list(kinds), len(kinds)):
                    self.assertEqual(sheet.ask(x)[0], worths[x])
                    self.assertEqual(Sheet(book, sheet.cells()).ask(x)[0], worths[x])
                x = chance.choice(list(kinds))
                sheet.change(x, sheetsamples.made_up_told(chance, book, kinds, kinds[x]))


class World:
    """One of each thing that can be asked, and all questions of lists and dicts, by number."""

    def __init__(self):
        self.book = samples.book()
        self.rows = rowsamples.rows()
        self.sheet = Sheet(sheetsamples.book(), sheetsamples.CELLS)
        self.ring = Book(samples.KINDS, [("f", (), "bit", ("let", "y", "bit", name("y"), name("y"))), ("g", (
            ("x", "bit"),), "bit", choose(name("x"), NO, NO))])

    def questions(self):
        book, rows, sheet, kinds = self.book, self.rows, self.sheet, self.book.kinds()
        knot = ("knot", (("NO", None), "YES"))
        beat, back, down = ("from", "beat", ("NO",)), ("back", "not", ("NO",)), ("from", "down", ("C",))
        table = {(x,): x for x in (None, "NO", "YES")}
        return [
            kinds.names, lambda: kinds.worths_of("deep"), lambda: kinds.wholes_of("both"), lambda: kinds.shape_of("both"),
            lambda: unknown_ways(("U", (None, "NO"))), lambda: parts(book.body_of("knot")),
            lambda: places(book.body_of("knot")), book.names, lambda: book.parameters("knot"),
            lambda: book.rows_of("and"), lambda: table_of(book), lambda: table_after(book, 2),
            lambda: worth_of(book, *knot), lambda: round_of_asking(book, *knot),
            lambda: worth_within(book, {"p": ("NO", None)}, ask("swap", name("p"))),
            lambda: paper_of(book, *knot), lambda: paper_of(book, "loop", ()), lambda: wall_of(book, *knot),
            lambda: walls_needed(book, "not", 0, ()), lambda: walls_needed(book, "and", 1, ()),
            lambda: spared_by(book, "and", 1, ()), lambda: next_wanted(book, "and", (None, None)),
            lambda: next_wanted(book, "and", ("NO", None)),
            lambda: tree_of(kinds, (("x", "bit"),), "bit", table),
            lambda: asked(book, "even", ("C",), 50), lambda: asked(self.ring, "f", (), 50),
            lambda: way_of(book, "pile", (), 50, True), lambda: by_names(book, "pile", (), 50, True),
            lambda: ahead(book, "even", ("C",), [("not", 0, ())], 50), lambda: ahead(self.ring, "f", (), [], 50),
            rows.names, lambda: rows.step("beat", ("NO",)), lambda: heads(rows, down, 9), lambda: heads(rows, beat, 0),
            lambda: round_of(rows, down), lambda: round_of(rows, ("behind", ("NO", "NO"), back)),
            lambda: alike(rows, beat, back), lambda: alike(rows, beat, ("behind", ("NO",), beat)),
            lambda: ended(rows, "pass", ("C",)), sheet.cells,
            lambda: least(sheet.book, sheet.cells()), lambda: sheet.ask("e")[0],
        ]

    def answer(self, number):
        question = self.questions()[number]
        return question()


COUNT = len(World().questions())


def spoil(told):
    """Change all lists and dicts in what was told."""
    if isinstance(told, (tuple, list)):
        for part in list(told):
            spoil(part)
    if isinstance(told, list):
        told.append("more")
        told.reverse()
    if isinstance(told, dict):
        for part in told.values():
            spoil(part)
        told.clear()
        told["more"] = "more"


class TellingTest(unittest.TestCase):
    def test_what_is_told_is_the_askers_own(self):
        answers = [World().answer(number) for number in range(COUNT)]
        world = World()
        for number in range(COUNT):
            spoil(world.answer(number))
        for number in range(COUNT):
            self.assertEqual(world.answer(number), answers[number])
            spoil(world.answer(number))
            self.assertEqual(world.answer(number), answers[number])

    def test_the_deeds_of_a_sheet(self):
        sheet = World().sheet
        spoil(sheet.ask("e"))
        self.assertEqual(sheet.ask("e"), ("NO", []))
        spoil(sheet.ask("e"))
        self.assertEqual(sheet.ask("e"), ("NO", []))

    def test_asked_in_any_order(self):
        answers = [World().answer(number) for number in range(COUNT)]
        chance = random.Random(2)
        for again in range(6):
            world, order = World(), list(range(COUNT)) * 2
            chance.shuffle(order)
            for number in order:
                self.assertEqual(world.answer(number), answers[number])

    def test_made_up_books_asked_in_any_order(self):
        chance = random.Random(22)
        for seed in range(25):
            one, other = madeup.book_of(seed), madeup.book_of(seed)
            every = madeup.askings(one)[::4]
            first = {asking: self.all_of(one, asking) for asking in every}
            for asking in chance.sample(every, len(every)):
                self.assertEqual(self.all_of(other, asking, True), first[asking])

    def all_of(self, book, asking, backwards=False):
        questions = [worth_of, round_of_asking, paper_of, wall_of, next_wanted,
                     lambda *some: asked(*some, 40, True), lambda *some: by_names(*some, 40, True),
                     lambda *some: way_of(*some, 40), lambda *some: ahead(*some, [], 40)]
        found = [question(book, *asking) for question in (questions[::-1] if backwards else questions)]
        return found[::-1] if backwards else found


class HandedInTest(unittest.TestCase):
    def stays(self, question, *some):
        """What is handed in is as it was."""
        kept = copy.deepcopy(some)
        question(*some)
        self.assertEqual(some, kept)

    def test_it_stays(self):
        book, rows = samples.book(), rowsamples.rows()
        body = book.body_of("knot")
        beat, back = ("from", "beat", ("NO",)), ("back", "not", ("NO",))
        sheet_book = sheetsamples.book()
        cells = sheetsamples.CELLS
        self.stays(Kinds, list(samples.KINDS))
        self.stays(Book, list(samples.KINDS), list(samples.DEFINITIONS))
        self.stays(lambda around: kind_within(book, around, body), {"p": "both", "x": "bit"})
        self.stays(lambda known: worth_within(book, known, body), {"p": ("NO", None), "x": "NO"})
        self.stays(lambda some: with_parts(ask("and", NO, NO), some), [NO, NO])
        self.stays(lambda paper: is_paper(book, paper), paper_of(book, "odd", ("C",)))
        self.stays(lambda wall: wall_stands(book, wall), wall_of(book, "odd", ("C",)))
        self.stays(lambda table: tree_of(book.kinds(), (("x", "bit"),), "bit", table), {(x,): x for x in (None, "NO", "YES")})
        self.stays(lambda way: is_way(book, "pile", (), way, True), way_of(book, "pile", (), 50, True))
        self.stays(lambda notes: ahead(book, "odd", ("C",), notes, 50), [("not", 0, ()), ("even", 0, ())])
        self.stays(lambda told: Rows(rowsamples.book(), told), list(rowsamples.ROWS))
        self.stays(lambda pairs: are_pairs(rows, beat, back, pairs), alike(rows, beat, back)[1])
        self.stays(lambda stands: are_ended(rows, "pass", ("C",), stands), ended(rows, "pass", ("C",)))
        self.stays(lambda told: Sheet(sheet_book, told).change("a", ("tag", "bit", "NO")), list(cells))
        self.stays(lambda told: least(sheet_book, told), list(cells))
        self.stays(lambda told, shown: shows_least(sheet_book, told, shown), list(cells), least(sheet_book, cells))

    def test_what_is_done_to_it_behind_the_call(self):
        kinds, definitions = list(samples.KINDS), list(samples.DEFINITIONS)
        told_rows, cells = list(rowsamples.ROWS), list(sheetsamples.CELLS)
        some_kinds, book = Kinds(kinds), Book(kinds, definitions)
        rows, sheet = Rows(rowsamples.book(), told_rows), Sheet(sheetsamples.book(), cells)
        for handed_in in (kinds, definitions, told_rows, cells):
            handed_in.reverse()
            handed_in.clear()
        self.assertEqual(some_kinds.names(), [kind for kind, shape in samples.KINDS])
        self.assertEqual(table_of(book), table_of(samples.book()))
        self.assertEqual(book.names(), samples.book().names())
        self.assertEqual(heads(rows, ("from", "down", ("C",)), 5), ["C", "B", "A"])
        self.assertEqual(more(rows, rest(rows, ("from", "down", ("C",)))), True)
        self.assertEqual(sheet.ask("e"), ("NO", [("m", "done"), ("e", "done")]))
        self.assertEqual(sheet.cells(), sheetsamples.CELLS)

    def test_a_book_serves_many(self):
        # Rows, sheets and walks over one book, each used while the others are, tell what they tell alone.
        book = rowsamples.book()
        rows = Rows(book, rowsamples.ROWS)
        sheet = Sheet(book, [("a", ("tag", "bit", "NO")), ("b", ("ask", "not", ("a",)))])
        alone = table_of(rowsamples.book())
        for again in range(2):
            self.assertEqual(heads(rows, ("from", "down", ("C",)), 5), ["C", "B", "A"])
            self.assertEqual(sheet.ask("b")[0], "YES")
            self.assertEqual(asked(book, "not", ("NO",), 5), (("worth", "YES"), [((), None)]))
            self.assertEqual(table_of(book), alone)
            self.assertTrue(is_under(None, worth_of(book, "loop", ())))


if __name__ == "__main__":
    unittest.main()
