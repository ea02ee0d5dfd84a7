"""Rows told over a book [25], and the steps from their stands [26]."""

from wantway.bodies import part_at, places
from wantway.books import are_parameters, is_row_over, kind_within, row_count
from wantway.errors import NoAsking, NoRows
from wantway.kinds import is_of_tags
from wantway.tables import worth_within
from wantway.texts import is_name

MOST_ROWS = 6
MOST_STANDS = 24


class Rows:
    """The rows that a list of tuples (name, parameters, kind, body) tells over a book; NoRows where it tells none."""

    def __init__(self, book, told):
        self.book = book
        self.told = {}
        # Filled as steps are wanted, so that each is found but once.
        self.steps = {}
        self.take_heads(told)
        self.check_bodies()
        self.check_stands()

    def take_heads(self, told):
        """Take all rows, their bodies unseen, for these lead to one another; NoRows of the first wrong head."""
        if len(told) == 0:
            raise NoRows(0)
        if len(told) > MOST_ROWS:
            raise NoRows(MOST_ROWS)
        for number, (name, parameters, kind, body) in enumerate(told):
            if not self.is_head(name, parameters, kind):
                raise NoRows(number)
            self.told[name] = (parameters, kind, body)

    def is_head(self, name, parameters, kind):
        """True where this may be the head of one row more, its stands left aside."""
        kinds = self.book.kinds()
        if not is_name(name) or name in self.told or not are_parameters(kinds, parameters):
            return False
        return all([is_of_tags(kinds, one) for one in [kind] + kinds_of(parameters)])

    def check_bodies(self):
        """NoRows of the first row whose body is wrong."""
        for number, name in enumerate(self.names()):
            parameters, kind, body = self.told[name]
            if not self.is_body(dict(parameters), kind, body):
                raise NoRows(number)

    def is_body(self, around, kind, body):
        """True where this is right as a body, or a branch of one, of a row of this kind."""
        if body[0] == "by":
            own = kind_around(self.book, around, body[1])
            if own is None or self.book.kinds().shape_of(own) != ("tags", tuple([tag for tag, branch in body[2]])):
                return False
            return all([self.is_body(around, kind, branch) for tag, branch in body[2]])
        if body[0] == "then" and kind_around(self.book, around, body[1]) != kind:
            return False
        r, arguments = body[-2:]
        if r not in self.told or self.kind_of(r) != kind:
            return False
        return [kind_around(self.book, around, argument) for argument in arguments] == kinds_of(self.told[r][0])

    def check_stands(self):
        """NoRows of the first row with which there are too many stands."""
        in_all = 0
        for number, name in enumerate(self.names()):
            in_all += row_count(self.book.kinds(), self.told[name][0])
            if in_all > MOST_STANDS:
                raise NoRows(number)

    def names(self):
        """The names of all rows, as they were told."""
        return list(self.told)

    def kind_of(self, r):
        """The kind of a row, as it was told; NoAsking where none has the name."""
        if r not in self.told:
            raise NoAsking(f"no row is called {r!r}")
        return self.told[r][1]

    def step(self, r, worths):
        """The step from a stand: ("nothing",), ("on", stand) or ("then", head, stand); NoAsking of no stand."""
        if not self.is_stand(r, worths):
            raise NoAsking(f"{r!r} at {worths!r} is no stand")
        if (r, worths) not in self.steps:
            parameters, kind, body = self.told[r]
            names = [name for name, its_kind in parameters]
            self.steps[(r, worths)] = step_along(self.book, dict(zip(names, worths)), body)
        return self.steps[(r, worths)]

    def is_stand(self, r, worths):
        """True where a row has the name, and worths, whatever stands in them, are its."""
        return r in self.told and is_row_over(self.book.kinds(), self.told[r][0], worths)


def kinds_of(parameters):
    """The kinds of parameters, a list."""
    return [kind for name, kind in parameters]


def kind_around(book, around, body):
    """The kind of a body that may have any texts in it; None where something in it is wrong."""
    lets = [part for part in [part_at(body, place) for place in places(body)] if part[0] == "let"]
    if not all([is_name(part[1]) for part in lets]):
        return None
    return kind_within(book, around, body)


def step_along(book, known, body):
    """The step that a row's body takes by worths of its parameters."""
    while body[0] == "by":
        branches = dict(body[2])
        tag = worth_within(book, known, body[1])
        if tag is None:
            return ("nothing",)
        body = branches[tag]
    r, arguments = body[-2:]
    stand = (r, tuple([worth_within(book, known, argument) for argument in arguments]))
    if body[0] == "on":
        return ("on", stand)
    return ("then", worth_within(book, known, body[1]), stand)


def led_on(rows, r, worths):
    """(stands, step): this stand and those to which steps by on lead from it, each once, and the step behind them.

    This is one to a head or to nothing; or by on, where it comes round to one of them.
    """
    stands = []
    following = (r, worths)
    while following not in stands:
        stands.append(following)
        step = rows.step(following[0], following[1])
        if step[0] != "on":
            return (stands, step)
        following = step[1]
    return (stands, ("on", following))
