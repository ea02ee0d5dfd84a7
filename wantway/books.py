"""Books: kinds and definitions [9], [10]."""

from wantway.bodykinds import kind_or_place
from wantway.errors import NoAsking, NoBook
from wantway.kinds import Kinds
from wantway.texts import is_name

MOST_DEFINITIONS = 8
MOST_PARAMETERS = 3
MOST_ROWS = 200
MOST_ROWS_IN_ALL = 400


class Book:
    """The book of a list of kinds and a list of definitions (name, parameters, kind, body)."""

    def __init__(self, kinds, definitions):
        self.sorts = Kinds(kinds)
        self.told = {}
        self.rows = {}
        # Filled by wantway.tables when the least table is wanted first, so that it is found but once.
        self.turns = {}
        self.take_heads(definitions)
        self.check_bodies()

    def take_heads(self, definitions):
        """Take all definitions, their bodies unseen, for these ask one another; NoBook of the first wrong head."""
        if len(definitions) == 0:
            raise NoBook(0, None)
        in_all = 0
        for number, (name, parameters, kind, body) in enumerate(definitions):
            if number >= MOST_DEFINITIONS or not self.is_head(name, parameters, kind):
                raise NoBook(number, None)
            count = row_count(self.sorts, parameters)
            in_all += count
            if count > MOST_ROWS or in_all > MOST_ROWS_IN_ALL:
                raise NoBook(number, None)
            self.told[name] = (parameters, kind, body)
            self.rows[name] = rows_over(self.sorts, parameters)

    def is_head(self, name, parameters, kind):
        """True where this may be the head of one definition more, its rows left aside."""
        if not is_name(name) or name in self.told:
            return False
        return are_parameters(self.sorts, parameters) and kind in self.sorts.names()

    def check_bodies(self):
        """NoBook of the first definition whose body is wrong, or of another kind than told."""
        for number, name in enumerate(self.names()):
            parameters, kind, body = self.told[name]
            found, place = kind_or_place(self, dict(parameters), body)
            if found is None:
                raise NoBook(number, place)
            if found != kind:
                raise NoBook(number, ())

    def kinds(self):
        """The kinds of the book."""
        return self.sorts

    def names(self):
        """The names of all definitions, as they were told."""
        return list(self.told)

    def parameters(self, F):
        """The parameters of a definition, as they were told."""
        return self.told_of(F)[0]

    def kind_of(self, F):
        """The kind of a definition, as it was told."""
        return self.told_of(F)[1]

    def body_of(self, F):
        """The body of a definition, as it was told."""
        return self.told_of(F)[2]

    def rows_of(self, F):
        """All rows of worths of a definition, the last worth changing fastest."""
        self.told_of(F)
        return list(self.rows[F])

    def told_of(self, F):
        """What was told of a definition; NoAsking where none has the name."""
        if not isinstance(F, str) or F not in self.told:
            raise NoAsking(f"no definition is called {F!r}")
        return self.told[F]


def kind_within(book, around, body):
    """The kind of a body, None where something in it is wrong; around has the kinds of the names around."""
    kind, place = kind_or_place(book, around, body)
    return kind


def is_asking(book, F, worths):
    """True where F is the name of a definition and worths, whatever stands in them, are a row of its."""
    return F in book.names() and is_row_over(book.kinds(), book.parameters(F), worths)


def check_asking(book, F, worths):
    """NoAsking where these are no asking of the book."""
    if not is_asking(book, F, worths):
        raise NoAsking(f"{F!r} at {worths!r} is no asking")


def are_parameters(kinds, parameters):
    """True where these are at most three of (name, kind), names unlike, kinds of these."""
    if len(parameters) > MOST_PARAMETERS:
        return False
    seen = {}
    for name, kind in parameters:
        if not is_name(name) or name in seen or kind not in kinds.names():
            return False
        seen[name] = True
    return True


def row_count(kinds, parameters):
    """How many rows of worths there are, told without making them: they may be far too many."""
    count = 1
    for name, kind in parameters:
        count *= len(kinds.worths_of(kind))
    return count


def is_row_over(kinds, parameters, worths):
    """True where worths, whatever stands in them, are a row of worths of parameters."""
    if len(worths) != len(parameters):
        return False
    return all([kinds.is_worth(kind, worth) for (name, kind), worth in zip(parameters, worths)])


def rows_over(kinds, parameters):
    """All rows of worths of parameters, the last changing fastest."""
    rows = [()]
    for name, kind in parameters:
        rows = [row + (worth,) for row in rows for worth in kinds.worths_of(kind)]
    return rows
