"""What a body makes [11]: known has the worths of the names around, table, a Table, those of askings."""

from wantway.errors import NoWorth
from wantway.worths import is_under, part_of


class Table:
    """The worths that a dict tells of askings (f, worths); looked has as keys those that were looked up."""

    def __init__(self, told):
        self.told = told
        self.looked = {}

    def look_up(self, asking):
        """The worth told of an asking; NoWorth where nothing is told of it."""
        if asking not in self.told:
            raise NoWorth(f"nothing is told of {asking}")
        self.looked[asking] = True
        return self.told[asking]


def made_at(book, asking, told):
    """(worth, looked): what an asking's body makes by a dict of askings to worths, and what is looked up there."""
    f, worths = asking
    names = [name for name, kind in book.parameters(f)]
    table = Table(told)
    return (made(book.body_of(f), dict(zip(names, worths)), table), table.looked)


def made(body, known, table):
    """What a right body makes; NoWorth where the table tells nothing of an asking, or a let's row doesn't rise."""
    maker = MAKERS[body[0]]
    return maker(body, known, table)


def made_by_tag(body, known, table):
    """A tag makes itself."""
    return body[1]


def made_by_name(body, known, table):
    """A name makes its worth."""
    return known[body[1]]


def made_by_pair(body, known, table):
    """A pair makes the tuple of what both parts make."""
    return (made(body[1], known, table), made(body[2], known, table))


def made_by_one(body, known, table):
    """One makes the first part of what E makes."""
    return part_of(made(body[1], known, table), (0,))


def made_by_other(body, known, table):
    """Other makes the second part of what E makes."""
    return part_of(made(body[1], known, table), (1,))


def made_by_choose(body, known, table):
    """Choose makes what the branch of E's tag makes, None where no tag came."""
    chosen = made(body[1], known, table)
    for tag, branch in body[2]:
        if tag == chosen:
            return made(branch, known, table)
    return None


def made_by_ask(body, known, table):
    """Ask makes what the table tells of f at what the arguments make."""
    worths = tuple([made(argument, known, table) for argument in body[2]])
    return table.look_up((body[1], worths))


def made_by_let(body, known, table):
    """A let makes what B makes, its name worth the last of the let's row."""
    return made(body[4], with_worth(known, body[1], last_of_row(body, known, table)), table)


def last_of_row(body, known, table):
    """The last worth of a let's row: from None on, what E makes of the one ahead, till it is as that one."""
    ahead = None
    while True:
        following = made(body[3], with_worth(known, body[1], ahead), table)
        if following == ahead:
            return following
        # A row that rises comes to an end; another one, by a table that doesn't rise, might come round for ever.
        if not is_under(ahead, following):
            raise NoWorth(f"the row of {body[1]} doesn't rise")
        ahead = following


def with_worth(known, name, worth):
    """The worths of the names around, with that of one name more."""
    within = dict(known)
    within[name] = worth
    return within


MAKERS = {
    "tag": made_by_tag,
    "name": made_by_name,
    "pair": made_by_pair,
    "one": made_by_one,
    "other": made_by_other,
    "choose": made_by_choose,
    "ask": made_by_ask,
    "let": made_by_let,
}
