"""Things, cells, births [18], and goings, which tell heads [19].

Within the program a cell is kept by a number, 0 that of the asking itself, and a thing is ("cell", number) where
it is told as ("cell", birth): births nest so deep that to compare or to look up one by itself may fail.
"""

from wantway.bodies import part_at
from wantway.worths import part_of


class Ground:
    """The cells of one asking: the birth of each, and what going into it starts from."""

    def __init__(self, book, F, worths):
        self.book = book
        self.given = worths
        self.births = [()]
        self.numbers = {}
        self.starts = {0: (F, (), named(book, F, [("given", i, ()) for i in range(len(worths))]))}

    def number_at(self, maker, place):
        """The number of the cell that is made at a place in the going of a cell; always above its maker's."""
        if (maker, place) not in self.numbers:
            self.numbers[(maker, place)] = len(self.births)
            self.births.append((self.births[maker], place))
        return self.numbers[(maker, place)]

    def number_of(self, birth):
        """The number of a birth, be there such a cell or not."""
        places = []
        while len(birth) > 0:
            birth, place = birth
            places.append(place)
        number = 0
        for place in reversed(places):
            number = self.number_at(number, place)
        return number

    def head_told(self, head):
        """A head as it is told, by births."""
        if head[0] == "tag":
            return head
        return ("pair", self.thing_told(head[1]), self.thing_told(head[2]))

    def thing_told(self, thing):
        """A thing as it is told."""
        if thing[0] == "cell":
            return ("cell", self.births[thing[1]])
        return thing

    def head_kept(self, head):
        """A head as it is kept, by numbers."""
        if head[0] == "tag":
            return head
        return ("pair", self.thing_kept(head[1]), self.thing_kept(head[2]))

    def thing_kept(self, thing):
        """A thing as it is kept."""
        if thing[0] == "cell":
            return ("cell", self.number_of(thing[1]))
        return thing

    def part_given(self, i, way):
        """The part at a way of the worth handed in for parameter i; None where it is no such parameter or no way."""
        if not 0 <= i < len(self.given) or any([number not in (0, 1) for number in way]):
            return None
        return part_of(self.given[i], way)

    def head_given(self, i, way):
        """("head", head) of a given thing, or ("never", i, way)."""
        worth = self.part_given(i, way)
        if worth is None:
            return ("never", i, way)
        if isinstance(worth, tuple):
            return ("head", ("pair", ("given", i, way + (0,)), ("given", i, way + (1,))))
        return ("head", ("tag", worth))


class Going:
    """Going into one cell, which waits whenever it wants the head of another.

    Its steps are ("body", place, known), ("thing", thing) and ("head", head), known what the names around stand for;
    it stops at ("head", head), the cell's own, ("want", number), ("never", i, way), or, by a head of another kind
    than the body's, ("unfit",).
    """

    def __init__(self, ground, number):
        self.ground = ground
        self.number = number
        self.f, self.place, self.known = ground.starts[number]
        self.body = ground.book.body_of(self.f)
        self.waiting = []

    def begin(self):
        """Go from the beginning to the first stop."""
        return self.go_on(("body", self.place, self.known))

    def take_head(self, head):
        """Go on, with the head of the cell that was wanted, to the next stop."""
        return self.go_on(("head", head))

    def go_on(self, state):
        """Go on from a step to the next stop."""
        while True:
            if state[0] == "body":
                state = self.from_body(state[1], state[2])
            elif state[0] == "thing":
                state = self.from_thing(state[1])
            elif state[0] == "head" and len(self.waiting) > 0:
                state = self.from_head(state[1])
            else:
                return state

    def from_body(self, place, known):
        """The step behind a body that is gone along."""
        body = part_at(self.body, place)
        if body[0] == "tag":
            return ("head", body)
        if body[0] == "name":
            return ("thing", known[body[1]])
        if body[0] == "pair":
            return ("head", ("pair", self.thing_at(place + (0,), known), self.thing_at(place + (1,), known)))
        if body[0] == "ask":
            return ("thing", self.thing_at(place, known))
        if body[0] == "let":
            return ("body", place + (1,), self.with_let(body, place, known))
        self.waiting.append((body, place, known))
        return ("body", place + (0,), known)

    def from_thing(self, thing):
        """The step behind a thing whose head is wanted."""
        if thing[0] == "cell":
            return ("want", thing[1])
        if thing[0] == "given":
            return self.ground.head_given(thing[1], thing[2])
        return ("head", thing)

    def from_head(self, head):
        """The step behind a head for which one, other or choose was waiting."""
        body, place, known = self.waiting.pop()
        if body[0] == "choose":
            for number, (tag, branch) in enumerate(body[2]):
                if head == ("tag", tag):
                    return ("body", place + (1 + number,), known)
        elif head[0] == "pair":
            return ("thing", head[1] if body[0] == "one" else head[2])
        return ("unfit",)

    def with_let(self, body, place, known):
        """What the names in a let stand for, E's thing being made."""
        word, name, kind, own, rest = body
        within = dict(known)
        if own[0] == "tag" or own[0] == "name" and own[1] != name:
            within[name] = self.thing_at(place + (0,), known)
            return within
        # The name stands in E, too, so what it stands for is there before E's cell is made.
        number = self.ground.number_at(self.number, place + (0,))
        within[name] = ("cell", number)
        self.make_cell(number, place + (0,), within)
        return within

    def thing_at(self, place, known):
        """What the body at a place stands for."""
        body = part_at(self.body, place)
        if body[0] == "tag":
            return body
        if body[0] == "name":
            return known[body[1]]
        number = self.ground.number_at(self.number, place)
        self.make_cell(number, place, known)
        return ("cell", number)

    def make_cell(self, number, place, known):
        """Make the cell of the body at a place: going into it starts there, or, of an asking, at what is asked."""
        body = part_at(self.body, place)
        if body[0] != "ask":
            self.ground.starts[number] = (self.f, place, known)
            return
        things = [self.thing_at(place + (at,), known) for at in range(len(body[2]))]
        self.ground.starts[number] = (body[1], (), named(self.ground.book, body[1], things))


def named(book, f, things):
    """A dict of the names of f's parameters to things."""
    names = [name for name, kind in book.parameters(f)]
    return dict(zip(names, things))
