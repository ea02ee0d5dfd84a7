"""Asked by want: nothing is done that isn't wanted, and nothing twice [20]."""

from wantway.books import check_asking
from wantway.doings import Doing, check_most
from wantway.goings import Ground

MOST_CELLS = 500


def asked(book, F, worths, most, whole=False):
    """(outcome, done): what comes of an asking by want, and the cells done for it, each with what wanted it first."""
    walk = walk_of(book, F, worths, most)
    outcome = walk.outcome(whole)
    return (outcome, walk.done())


def walk_of(book, F, worths, most):
    """The walk of an asking, at its beginning; NoAsking and NoMost where there is none."""
    check_asking(book, F, worths)
    check_most(most, MOST_CELLS)
    return Walk(Ground(book, F, worths), most)


class Walk(Doing):
    """The cells of an asking by want: which were begun, and which are done; all by their numbers."""

    def __init__(self, ground, most):
        Doing.__init__(self, ground, most)
        # Of each cell that was begun the one that wanted it, or None, and the cells that it wants, each once.
        self.wanters = {}
        self.wants = {}
        # In the order in which they are done.
        self.heads = {}

    def birth_of(self, number):
        """The birth of a cell, None of none."""
        if number is None:
            return None
        return self.ground.births[number]

    def done(self):
        """The tuples (birth, wanter) of the cells that are done, in their order."""
        return [(self.birth_of(number), self.birth_of(self.wanters[number])) for number in self.heads]

    def want(self, number):
        """The next stop where this cell is wanted by the last one under way, or by none."""
        wanter = None
        if len(self.under_way) > 0:
            wanter = self.under_way[-1].number
            if number not in self.wants[wanter]:
                self.wants[wanter].append(number)
        if number in self.heads:
            return ("taken", self.heads[number])
        if number in self.wanters:
            return ("ring", self.ring_from(number))
        self.wanters[number] = wanter
        self.wants[number] = []
        return self.go_into(number)

    def end(self, number, head):
        """Keep the head of a cell that is done: it is taken wherever the cell is wanted again."""
        self.heads[number] = head

    def ring_from(self, number):
        """The births of the cells under way from this one on: each wants the next, and the last this one."""
        numbers = [going.number for going in self.under_way]
        return [self.birth_of(other) for other in numbers[numbers.index(number):]]
