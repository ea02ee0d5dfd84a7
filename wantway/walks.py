"""Asked by want: nothing is done that isn't wanted, and nothing twice [20]."""

from wantway.books import check_asking
from wantway.errors import NoMost
from wantway.goings import Going, Ground

MOST_CELLS = 500


def asked(book, F, worths, most, whole=False):
    """(outcome, done): what comes of an asking by want, and the cells done for it, each with what wanted it first."""
    walk = walk_of(book, F, worths, most)
    outcome = walk.outcome(whole)
    return (outcome, [(walk.birth_of(number), walk.birth_of(walk.wanters[number])) for number in walk.heads])


def walk_of(book, F, worths, most):
    """The walk of an asking, at its beginning; NoAsking and NoMost where there is none."""
    check_asking(book, F, worths)
    check_most(most, MOST_CELLS)
    return Walk(Ground(book, F, worths), most)


def check_most(most, highest):
    """NoMost where a most is beyond its bounds."""
    if not 1 <= most <= highest:
        raise NoMost(f"most is from 1 to {highest}, not {most}")


class Walk:
    """The cells of an asking by want: which are under way, and which are done; all by their numbers."""

    def __init__(self, ground, most):
        self.ground = ground
        self.most = most
        self.under_way = []
        # Of each cell that was begun the one that wanted it, or None, and the cells that it wants, each once.
        self.wanters = {}
        self.wants = {}
        # In the order in which they are done.
        self.heads = {}

    def birth_of(self, number):
        """The birth of a cell, None of none."""
        if number is None:
            return None
        return self.ground.births[number]

    def outcome(self, whole):
        """What comes of the asking: its head alone, or its whole worth."""
        told = self.head_of_cell(0)
        if told[0] != "head":
            return told
        if whole:
            return self.whole_of(told[1])
        if told[1][0] == "pair":
            return ("worth", (None, None))
        return ("worth", told[1][1])

    def whole_of(self, head):
        """("worth", w) of a head with all its parts, or what came instead."""
        if head[0] == "tag":
            return ("worth", head[1])
        found = []
        for thing in head[1:]:
            told = self.head_of_thing(thing)
            if told[0] == "head":
                told = self.whole_of(told[1])
            if told[0] != "worth":
                return told
            found.append(told[1])
        return ("worth", tuple(found))

    def head_of_thing(self, thing):
        """("head", head) of a thing that no cell wants, or what came instead."""
        if thing[0] == "given":
            return self.ground.head_given(thing[1], thing[2])
        if thing[0] == "tag":
            return ("head", thing)
        return self.head_of_cell(thing[1])

    def head_of_cell(self, number):
        """("head", head) of a cell that no cell wants, or what came instead."""
        if number in self.heads:
            return ("head", self.heads[number])
        stop = ("want", number)
        while True:
            if stop[0] == "want":
                stop = self.want(stop[1])
            elif stop[0] == "head":
                ended = self.under_way.pop()
                self.heads[ended.number] = stop[1]
                if len(self.under_way) == 0:
                    return stop
                stop = self.under_way[-1].take_head(stop[1])
            else:
                return stop

    def want(self, number):
        """The next stop where this cell is wanted by the last one under way, or by none."""
        wanter = None
        if len(self.under_way) > 0:
            wanter = self.under_way[-1].number
            if number not in self.wants[wanter]:
                self.wants[wanter].append(number)
        if number in self.heads:
            return self.under_way[-1].take_head(self.heads[number])
        if number in self.wanters:
            return ("ring", self.ring_from(number))
        if len(self.wanters) == self.most:
            return ("dry",)
        self.wanters[number] = wanter
        self.wants[number] = []
        self.under_way.append(Going(self.ground, number))
        return self.under_way[-1].begin()

    def ring_from(self, number):
        """The births of the cells under way from this one on: each wants the next, and the last this one."""
        numbers = [going.number for going in self.under_way]
        return [self.birth_of(other) for other in numbers[numbers.index(number):]]
