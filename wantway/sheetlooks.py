"""The least worths of a sheet, and what shows them [31]."""

from wantway.sheetcells import check_cells, kind_told, worth_told


def least(book, cells):
    """A list of (name, worth, rank), in the cells' order, that shows their least worths."""
    check_cells(book, cells)
    worths = {}
    ranks = {}
    rank = 0
    turned = True
    while turned:
        rank += 1
        came = {name: worth_told(book, told, worths) for name, told in cells if name not in worths}
        turned = False
        for name, worth in came.items():
            if worth is not None:
                turned = True
                worths[name] = worth
                ranks[name] = rank
    return [(name, worths.get(name), ranks.get(name, 0)) for name, told in cells]


def shows_least(book, cells, rows):
    """True where a list of (name, worth, rank) shows the least worths of cells."""
    check_cells(book, cells)
    told = dict(cells)
    if sorted([name for name, worth, rank in rows]) != sorted(told):
        return False
    if not all([book.kinds().is_worth(kind_told(book, told[name]), worth) for name, worth, rank in rows]):
        return False
    return all([is_shown(book, told[name], worth, rank, rows) for name, worth, rank in rows])


def is_shown(book, told, worth, rank, rows):
    """True where a cell of this rank has this worth by those of lesser rank; of rank 0, None by all."""
    if rank < 0 or (worth is None) != (rank == 0):
        return False
    known = {name: its_worth for name, its_worth, its_rank in rows if rank == 0 or its_rank < rank}
    return worth == worth_told(book, told, known)
