"""Sheets: cells that are asked only when wanted [32], and kept from change to change [33]."""

from wantway.errors import NoCell, NoSheet
from wantway.needs import next_wanted
from wantway.sheetcells import check_cells, kind_told, worth_told


class Sheet:
    """The sheet of a book and a list of cells (name, told); NoSheet where it is none."""

    def __init__(self, book, cells):
        check_cells(book, cells)
        self.book = book
        self.told = dict(cells)
        self.moment = 0
        # Of each asking cell that was asked, and not changed since: the moment, its worth, and its wants, a list of
        # (name, worth) as they came.
        self.kept = {}

    def cells(self):
        """All cells, as they are told now."""
        return list(self.told.items())

    def ask(self, name):
        """(worth, deeds): the least worth of a cell, and what was looked at and done for it, as this ended."""
        self.check_cell(name)
        deeds = []
        return (self.come_of(name, [], deeds), deeds)

    def change(self, name, told):
        """Tell a cell something else, of the same kind."""
        self.check_cell(name)
        number = list(self.told).index(name)
        changed = dict(self.told)
        changed[name] = told
        check_cells(self.book, list(changed.items()))
        if kind_told(self.book, told) != kind_told(self.book, self.told[name]):
            raise NoSheet(number)
        self.told = changed
        self.moment += 1
        if name in self.kept:
            del self.kept[name]

    def check_cell(self, name):
        """NoCell where no cell has the name."""
        if name not in self.told:
            raise NoCell(f"no cell is called {name!r}")

    def come_of(self, name, under_way, deeds):
        """What comes of a cell; under_way are those that are being asked, deeds is given what ends."""
        if self.told[name][0] == "tag":
            return self.told[name][2]
        if name in under_way:
            return None
        if name in self.kept and self.kept[name][0] == self.moment:
            return self.kept[name][1]
        within = under_way + [name]
        if name in self.kept and self.wants_stay(self.kept[name][2], within, deeds):
            moment, worth, wants = self.kept[name]
            deeds.append((name, "looked"))
        else:
            worth, wants = self.done_anew(name, within, deeds)
            deeds.append((name, "done"))
        self.kept[name] = (self.moment, worth, wants)
        return worth

    def wants_stay(self, wants, under_way, deeds):
        """True where all these wants, asked again in order, come out as before; no more are asked where one doesn't."""
        for name, came in wants:
            if self.come_of(name, under_way, deeds) != came:
                return False
        return True

    def done_anew(self, name, under_way, deeds):
        """(worth, wants) of an asking cell that is done."""
        word, f, names = self.told[name]
        known = {}
        wants = []
        while True:
            wanted = next_wanted(self.book, f, tuple([known.get(other) for other in names]))
            if wanted is None:
                return (None, wants)
            if wanted == []:
                return (worth_told(self.book, self.told[name], known), wants)
            other = names[wanted[0][0]]
            came = self.come_of(other, under_way, deeds)
            wants.append((other, came))
            if came is None:
                return (None, wants)
            known[other] = came
