"""Made rows: their heads and their rests [27]."""

from wantway.errors import NoMore
from wantway.rows import led_on
from wantway.tables import worth_of


def more(rows, made):
    """True where a made row has a head and a rest."""
    return step_of(rows, made) is not None


def head(rows, made):
    """The head of a made row; NoMore where it has no more."""
    return step_or_refusal(rows, made)[0]


def rest(rows, made):
    """The rest of a made row; NoMore where it has no more."""
    return step_or_refusal(rows, made)[1]


def heads(rows, made, n):
    """The first n heads of a made row, or all that it has."""
    found = []
    while len(found) < n:
        step = step_of(rows, made)
        if step is None:
            return found
        found.append(step[0])
        made = step[1]
    return found


def step_or_refusal(rows, made):
    """(head, rest) of a made row; NoMore where it has no more."""
    step = step_of(rows, made)
    if step is None:
        raise NoMore(f"{made!r} has no more")
    return step


def step_of(rows, made):
    """(head, rest) of a made row, None where it has no more."""
    stepper = STEPPERS[made[0]]
    return stepper(rows, made)


def step_of_from(rows, made):
    """The head to which the steps of a stand lead, and the row from the stand behind it."""
    stands, step = led_on(rows, made[1], made[2])
    if step[0] != "then":
        return None
    word, its_head, stand = step
    return (its_head, ("from",) + stand)


def step_of_back(rows, made):
    """The first of the window, and the row of the window without it and with f's worth of the whole one."""
    word, f, window = made
    return (window[0], ("back", f, window[1:] + (worth_of(rows.book, f, window),)))


def step_of_each(rows, made):
    """f's worth of all heads, and the row of all rests."""
    word, f, some = made
    steps = [step_of(rows, one) for one in some]
    if None in steps:
        return None
    worths = tuple([step[0] for step in steps])
    return (worth_of(rows.book, f, worths), ("each", f, tuple([step[1] for step in steps])))


def step_of_behind(rows, made):
    """The first tag, and the row of those behind it; behind the last one the row that follows them."""
    word, tags, following = made
    if len(tags) == 1:
        return (tags[0], following)
    return (tags[0], ("behind", tags[1:], following))


STEPPERS = {
    "from": step_of_from,
    "back": step_of_back,
    "each": step_of_each,
    "behind": step_of_behind,
}
