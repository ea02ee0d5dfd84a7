"""Doing an asking, its head alone or its whole worth, by goings that want cells [20], [23]."""

from wantway.errors import NoMost
from wantway.goings import Going


class Doing:
    """The goings of an asking: those under way, each but the last waiting for the one behind it, and how many begun.

    By itself it keeps no head, and goes into a cell whenever it is wanted: so it is done by names.
    """

    def __init__(self, ground, most):
        self.ground = ground
        self.most = most
        self.begun = 0
        self.under_way = []

    def outcome(self, whole):
        """What comes of the asking: its head alone, or its whole worth."""
        told = self.head_of_cell(0)
        if told[0] != "head":
            return told
        if whole:
            return self.whole_of(told[1])
        if told[1][0] == "pair":
            return ("worth", (None, None))
        return ("worth", told[1][1])

    def whole_of(self, head):
        """("worth", w) of a head with all its parts, or what came instead."""
        if head[0] == "tag":
            return ("worth", head[1])
        found = []
        for thing in head[1:]:
            told = self.head_of_thing(thing)
            if told[0] == "head":
                told = self.whole_of(told[1])
            if told[0] != "worth":
                return told
            found.append(told[1])
        return ("worth", tuple(found))

    def head_of_thing(self, thing):
        """("head", head) of a thing that no cell wants, or what came instead."""
        if thing[0] == "given":
            return self.ground.head_given(thing[1], thing[2])
        if thing[0] == "tag":
            return ("head", thing)
        return self.head_of_cell(thing[1])

    def head_of_cell(self, number):
        """("head", head) of a cell that no cell wants, or what came instead."""
        stop = ("want", number)
        while True:
            if stop[0] == "want":
                stop = self.want(stop[1])
            elif stop[0] == "head":
                ended = self.under_way.pop()
                self.end(ended.number, stop[1])
                stop = ("taken", stop[1])
            elif stop[0] != "taken":
                return stop
            elif len(self.under_way) == 0:
                return ("head", stop[1])
            else:
                stop = self.under_way[-1].take_head(stop[1])

    def want(self, number):
        """The next stop where this cell is wanted: that of a going into it, or ("taken", head), or what comes."""
        return self.go_into(number)

    def go_into(self, number):
        """Go into a cell, to its first stop; ("dry",) where this is one going too many."""
        if self.begun == self.most:
            return ("dry",)
        self.begun += 1
        self.under_way.append(self.going_of(number))
        return self.under_way[-1].begin()

    def end(self, number, head):
        """Keep what is to be kept of a cell that is done: here, nothing."""
        pass

    def going_of(self, number):
        """The going into a cell."""
        return Going(self.ground, number)


def check_most(most, highest):
    """NoMost where a most is beyond its bounds."""
    if not 1 <= most <= highest:
        raise NoMost(f"most is from 1 to {highest}, not {most}")
