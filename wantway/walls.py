"""Walls: they show that no more comes than a worth [14]."""

from wantway.books import check_asking, is_asking
from wantway.errors import NoWorth
from wantway.makes import made_at
from wantway.tables import table_of
from wantway.worths import is_under


def wall_of(book, F, worths):
    """A wall that stands and tells the least worth of an asking: it and all that are looked up for it."""
    check_asking(book, F, worths)
    table = table_of(book)
    found = {(F, worths): True}
    waiting = [(F, worths)]
    while len(waiting) > 0:
        worth, looked = made_at(book, waiting.pop(), table)
        for asking in looked:
            if asking not in found:
                found[asking] = True
                waiting.append(asking)
    return [(asking[0], asking[1], table[asking]) for asking in found]


def wall_stands(book, rows):
    """True where a wall stands."""
    table = {}
    for f, worths, worth in rows:
        if not is_asking(book, f, worths) or (f, worths) in table:
            return False
        if not book.kinds().is_worth(book.kind_of(f), worth):
            return False
        table[(f, worths)] = worth
    try:
        return all([is_walled(book, asking, table) for asking in table])
    except NoWorth:
        return False


def is_walled(book, asking, table):
    """True where what an asking's body makes by a table is under what the table tells of it."""
    worth, looked = made_at(book, asking, table)
    return is_under(worth, table[asking])
