"""What a body makes [11]: known has the worths of the names around, table that of each asking (f, worths)."""

from wantway.errors import NoWorth
from wantway.worths import part_of


def made(body, known, table):
    """What a right body makes."""
    maker = MAKERS[body[0]]
    return maker(body, known, table)


def made_by_tag(body, known, table):
    """A tag makes itself."""
    return body[1]


def made_by_name(body, known, table):
    """A name makes its worth."""
    return known[body[1]]


def made_by_pair(body, known, table):
    """A pair makes the tuple of what both parts make."""
    return (made(body[1], known, table), made(body[2], known, table))


def made_by_one(body, known, table):
    """One makes the first part of what E makes."""
    return part_of(made(body[1], known, table), (0,))


def made_by_other(body, known, table):
    """Other makes the second part of what E makes."""
    return part_of(made(body[1], known, table), (1,))


def made_by_choose(body, known, table):
    """Choose makes what the branch of E's tag makes, None where no tag came."""
    chosen = made(body[1], known, table)
    for tag, branch in body[2]:
        if tag == chosen:
            return made(branch, known, table)
    return None


def made_by_ask(body, known, table):
    """Ask makes what the table tells of f at what the arguments make."""
    worths = tuple([made(argument, known, table) for argument in body[2]])
    return table[(body[1], worths)]


def made_by_let(body, known, table):
    """A let makes what B makes, its name worth the last of the let's row."""
    return made(body[4], with_worth(known, body[1], last_of_row(body, known, table)), table)


def last_of_row(body, known, table):
    """The last worth of a let's row: from None on, what E makes of the one ahead, till it is as that one."""
    row = [None]
    while True:
        following = made(body[3], with_worth(known, body[1], row[-1]), table)
        if following == row[-1]:
            return following
        # By a table that doesn't rise a row may come round, and would go on for ever.
        if following in row:
            raise NoWorth(f"the row of {body[1]} comes round and has no last worth")
        row.append(following)


def with_worth(known, name, worth):
    """The worths of the names around, with that of one name more."""
    within = dict(known)
    within[name] = worth
    return within


MAKERS = {
    "tag": made_by_tag,
    "name": made_by_name,
    "pair": made_by_pair,
    "one": made_by_one,
    "other": made_by_other,
    "choose": made_by_choose,
    "ask": made_by_ask,
    "let": made_by_let,
}
