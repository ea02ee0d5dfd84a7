"""Asked by want, with what is needed done ahead [24]."""

from wantway.books import check_asking
from wantway.doings import check_most
from wantway.errors import NoAsking, NoNote, NoPart
from wantway.goings import Going, Ground
from wantway.needs import is_needed
from wantway.walks import MOST_CELLS, Walk


def ahead(book, F, worths, notes, most, whole=False):
    """(outcome, done): what comes of an asking where each cell of an asking first wants what the notes name."""
    check_asking(book, F, worths)
    check_notes(book, notes)
    check_most(most, MOST_CELLS)
    walk = NotedWalk(Ground(book, F, worths), most, notes)
    outcome = walk.outcome(whole)
    return (outcome, walk.done())


def check_notes(book, notes):
    """NoNote of the first tuple that is no note, or is there already."""
    seen = {}
    for number, note in enumerate(notes):
        if note in seen or not is_note(book, note):
            raise NoNote(number)
        seen[note] = True


def is_note(book, note):
    """True where a tuple (f, i, way) tells what is needed."""
    f, i, way = note
    try:
        return is_needed(book, f, i, way)
    except (NoAsking, NoPart):
        return False


class NotedWalk(Walk):
    """The cells of an asking by want and by notes."""

    def __init__(self, ground, most, notes):
        Walk.__init__(self, ground, most)
        self.notes = notes

    def going_of(self, number):
        """The going into a cell; into that of an asking it is one ahead of which something is wanted."""
        f, place, known = self.ground.starts[number]
        # Only an asking's cell starts at a whole body: other cells are made for bodies within one.
        if place != ():
            return Going(self.ground, number)
        return NotedGoing(self.ground, number, [(i, way) for name, i, way in self.notes if name == f])


class NotedGoing(Going):
    """Going into the cell of an asking, which wants the parts of arguments at some (i, way) ahead of its body."""

    def __init__(self, ground, number, needs):
        Going.__init__(self, ground, number)
        self.in_body = False
        # ("argument", i), and from there on ("part", side): each leads to a thing whose head is wanted.
        self.leads = []
        for i, way in needs:
            self.leads.append(("argument", i))
            self.leads.extend([("part", side) for side in way])

    def begin(self):
        """Go from the beginning to the first stop."""
        return self.go_ahead(("head", None))

    def take_head(self, head):
        """Go on, with the head of the cell that was wanted, to the next stop."""
        return self.go_ahead(self.go_on(("head", head)))

    def go_ahead(self, stop):
        """Go on, as long as the head of what leads to the body is there, to the next stop."""
        while stop[0] == "head" and not self.in_body:
            stop = self.go_on(self.behind_head(stop[1]))
        return stop

    def behind_head(self, head):
        """The step behind a head that was wanted ahead of the body, or behind nothing, at the beginning."""
        if len(self.leads) == 0:
            self.in_body = True
            return ("body", self.place, self.known)
        word, number = self.leads.pop(0)
        if word == "argument":
            parameters = self.ground.book.parameters(self.f)
            return ("thing", self.known[parameters[number][0]])
        return ("thing", head[1 + number])
