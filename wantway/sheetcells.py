"""The cells of a sheet, as they are told [30]."""

from wantway.errors import NoSheet
from wantway.kinds import is_of_tags
from wantway.tables import worth_of
from wantway.texts import is_name

MOST_CELLS = 30


def check_cells(book, cells):
    """NoSheet of the first cell with which these are no cells of a sheet."""
    if len(cells) == 0:
        raise NoSheet(0)
    if len(cells) > MOST_CELLS:
        raise NoSheet(MOST_CELLS)
    kinds = {}
    for number, (name, told) in enumerate(cells):
        if not is_name(name) or name in kinds or not is_told(book, told):
            raise NoSheet(number)
        kinds[name] = kind_told(book, told)
    for number, (name, told) in enumerate(cells):
        if told[0] == "ask" and [kinds.get(other) for other in told[2]] != kinds_asked(book, told[1]):
            raise NoSheet(number)


def is_told(book, told):
    """True where this may be told of a cell, which cells it names left aside."""
    kinds = book.kinds()
    if told[0] == "tag":
        return is_of_tags(kinds, told[1]) and kinds.is_worth(told[1], told[2])
    word, f, names = told
    if f not in book.names() or len(names) != len(book.parameters(f)):
        return False
    return all([is_of_tags(kinds, kind) for kind in [book.kind_of(f)] + kinds_asked(book, f)])


def kinds_asked(book, f):
    """The kinds of the parameters of a definition, a list."""
    return [kind for name, kind in book.parameters(f)]


def kind_told(book, told):
    """The kind of a cell, by what is told of it."""
    if told[0] == "tag":
        return told[1]
    return book.kind_of(told[1])


def worth_told(book, told, worths):
    """The worth of a cell of which this is told, by a dict of cells to worths; of those not in it, None."""
    if told[0] == "tag":
        return told[2]
    return worth_of(book, told[1], tuple([worths.get(name) for name in told[2]]))
