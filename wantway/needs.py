"""What is needed and what is spared [15], what is wanted next [16]."""

from wantway.books import check_asking
from wantway.errors import NoPart
from wantway.papers import paper_of
from wantway.tables import table_of
from wantway.walls import wall_of
from wantway.worths import is_row_under, part_of, unknown_ways


def is_needed(book, F, i, way):
    """True where parameter i of F is needed at a way."""
    return sparing_row(book, F, i, way) is None


def walls_needed(book, F, i, way):
    """Walls that show a part needed: one for each row that lacks just this part. None of what is spared."""
    if sparing_row(book, F, i, way) is not None:
        return None
    return [wall_of(book, F, row) for row in book.rows_of(F) if unknowns(row) == [(i, way)]]


def spared_by(book, F, i, way):
    """(worths, paper): the first row that has a worth without this part. None of what is needed."""
    row = sparing_row(book, F, i, way)
    if row is None:
        return None
    return (row, paper_of(book, F, row))


def next_wanted(book, F, worths):
    """The unknown (i, way) at a row that all greater rows with a worth know; None where there is no such row."""
    check_asking(book, F, worths)
    table = table_of(book)
    return wanted_at({row: table[(F, row)] for row in book.rows_of(F)}, worths)


def wanted_at(told, worths):
    """What is wanted next at a row, by a dict that tells all rows their worths."""
    if told[worths] is not None:
        return []
    greater = [row for row, worth in told.items() if worth is not None and is_row_under(worths, row)]
    if len(greater) == 0:
        return None
    return [(i, way) for i, way in unknowns(worths) if all([part_of(row[i], way) is not None for row in greater])]


def sparing_row(book, F, i, way):
    """The first row of F that has None there and a worth all the same, or None; NoPart where there is no such part."""
    check_part(book, F, i, way)
    table = table_of(book)
    for row in book.rows_of(F):
        if part_of(row[i], way) is None and table[(F, row)] is not None:
            return row
    return None


def check_part(book, F, i, way):
    """NoPart where F has no parameter i, or its kind no pair as far as the way goes; NoAsking ahead of it."""
    parameters = book.parameters(F)
    if not 0 <= i < len(parameters):
        raise NoPart(f"{F} has no parameter {i}")
    kind = parameters[i][1]
    for number in way:
        shape = book.kinds().shape_of(kind)
        if shape[0] != "pair":
            raise NoPart(f"parameter {i} of {F} has no part at {way}")
        kind = shape[1 + number]


def unknowns(row):
    """All (i, way) at which None stands itself in a row, in order."""
    return [(i, way) for i, worth in enumerate(row) for way in unknown_ways(worth)]
