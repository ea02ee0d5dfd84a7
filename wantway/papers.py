"""Papers: they show that a worth comes [13]."""

from wantway.books import is_asking
from wantway.errors import NoWorth
from wantway.makes import made_at
from wantway.tables import round_of, table_after, table_of_nothing, turn_at
from wantway.worths import is_under, joined


def paper_of(book, F, worths):
    """A right paper that tells the least worth of an asking: what comes to it, round by round, empty of None."""
    last = round_of(book, F, worths)
    wanted = {rank: {} for rank in range(last + 1)}
    wanted[last][(F, worths)] = True
    rows = []
    for rank in range(last, 0, -1):
        table = table_after(book, rank - 1)
        for asking in list(wanted[rank]):
            worth, looked = made_at(book, asking, table)
            rows.append((asking[0], asking[1], worth, rank))
            for other in looked:
                # By its last turn it has the worth that this table tells; one that is worth None has rank 0.
                wanted[turn_at(book, other, rank - 1)[0]][other] = True
    return rows[::-1]


def is_paper(book, rows):
    """True where a paper is right."""
    if not all([is_row_of_paper(book, row) for row in rows]):
        return False
    by_rank = {}
    for row in rows:
        by_rank.setdefault(row[3], []).append(row)
    table = table_of_nothing(book)
    try:
        for rank in sorted(by_rank):
            if not all([is_shown(book, row, table) for row in by_rank[rank]]):
                return False
            for row in by_rank[rank]:
                asking = (row[0], row[1])
                table[asking] = joined(table[asking], row[2])
    except NoWorth:
        return False
    return True


def is_row_of_paper(book, row):
    """True where a tuple of a paper names an asking, a worth of its kind, and a rank from 1 on."""
    f, worths, worth, rank = row
    return is_asking(book, f, worths) and book.kinds().is_worth(book.kind_of(f), worth) and rank >= 1


def is_shown(book, row, table):
    """True where a tuple's worth is under what the body makes by the table of lesser ranks."""
    worth, looked = made_at(book, (row[0], row[1]), table)
    return is_under(row[2], worth)
