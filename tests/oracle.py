"""A second, plain reading of [11] to [14], to try the program against."""


class Unfit(Exception):
    """Nothing is told of an asking, or a let's row doesn't rise."""


def under(one, other):
    if one is None or one == other:
        return True
    if isinstance(one, tuple) and isinstance(other, tuple):
        return all(under(first, second) for first, second in zip(one, other))
    return False


def row_under(one, other):
    return all(under(first, second) for first, second in zip(one, other))


def makes(body, known, look):
    word = body[0]
    if word == "tag":
        return body[1]
    if word == "name":
        return known[body[1]]
    if word == "pair":
        return tuple(makes(part, known, look) for part in body[1:])
    if word in ("one", "other"):
        whole = makes(body[1], known, look)
        return None if whole is None else whole[word == "other"]
    if word == "choose":
        tag = makes(body[1], known, look)
        return None if tag is None else makes(dict(body[2])[tag], known, look)
    if word == "ask":
        return look(body[1], tuple(makes(part, known, look) for part in body[2]))
    last, row = (), None
    while last != row:
        last, row = row, makes(body[3], {**known, body[1]: row}, look)
        if not under(last, row):
            raise Unfit
    return makes(body[4], {**known, body[1]: row}, look)


def makes_at(book, f, worths, look):
    names = [x for x, kind in book.parameters(f)]
    return makes(book.body_of(f), dict(zip(names, worths)), look)


def rounds(book):
    """The tables of all rounds, up to the first that is as the one ahead of it."""
    tables = [{(f, row): None for f in book.names() for row in book.rows_of(f)}]
    while True:
        ahead = tables[-1]
        table = {asking: makes_at(book, *asking, lambda f, row: ahead[(f, row)]) for asking in ahead}
        if table == ahead:
            return tables
        tables.append(table)


def fits(book, f, worths, worth):
    if f not in book.names() or worths not in book.rows_of(f):
        return False
    return worth in book.kinds().worths_of(book.kind_of(f))


def join(one, other):
    if one is None or other is None:
        return other if one is None else one
    if isinstance(one, tuple) and isinstance(other, tuple):
        return tuple(join(first, second) for first, second in zip(one, other))
    if one != other:
        raise Unfit
    return one


def paper_is_right(book, paper):
    for f, worths, worth, rank in paper:
        if not fits(book, f, worths, worth) or rank < 1:
            return False

        def look(g, row):
            told = None
            for other, its_row, its_worth, its_rank in paper:
                if (other, its_row) == (g, row) and its_rank < rank:
                    told = join(told, its_worth)
            return told

        try:
            if not under(worth, makes_at(book, f, worths, look)):
                return False
        except Unfit:
            return False
    return True


def wall_is_right(book, wall):
    if any(not fits(book, f, worths, worth) for f, worths, worth in wall):
        return False
    if len({(f, worths) for f, worths, worth in wall}) < len(wall):
        return False

    def look(g, row):
        for f, worths, worth in wall:
            if (f, worths) == (g, row):
                return worth
        raise Unfit

    try:
        return all(under(makes_at(book, f, worths, look), worth) for f, worths, worth in wall)
    except Unfit:
        return False
