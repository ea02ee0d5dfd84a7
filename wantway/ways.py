"""Ways of doing an asking [21], and the least of them [22]."""

from wantway.books import check_asking
from wantway.goings import Going, Ground
from wantway.walks import walk_of
from wantway.worths import is_whole


def way_of(book, F, worths, most, whole=False):
    """The least way of doing an asking, that of the cells done by want; None where no worth is told."""
    walk = walk_of(book, F, worths, most)
    if walk.outcome(whole)[0] != "worth":
        return None
    return [way_row(walk, number) for number in walk.heads]


def way_row(walk, number):
    """The tuple (birth, head, wants) of a cell that was done."""
    wants = [walk.birth_of(wanted) for wanted in walk.wants[number]]
    return (walk.birth_of(number), walk.ground.head_told(walk.heads[number]), wants)


def is_way(book, F, worths, rows, whole=False):
    """True where these rows are a way of doing an asking."""
    check_asking(book, F, worths)
    ground = Ground(book, F, worths)
    heads = {}
    wants = {}
    for birth, head, wanted in rows:
        number = ground.number_of(birth)
        if number in heads:
            return False
        heads[number] = ground.head_kept(head)
        wants[number] = [ground.number_of(other) for other in wanted]
    if 0 not in heads or not are_gone(ground, heads, wants):
        return False
    return not whole or are_there(ground, heads, heads[0])


def are_gone(ground, heads, wants):
    """True where each cell is made in the going of one of these, and its own going tells what is told of it."""
    order = {number: at for at, number in enumerate(heads)}
    # A maker has a lesser number than what it makes, so it is gone into ahead of it, and starts it.
    for number in sorted(heads):
        if number not in ground.starts or not is_gone(ground, heads, wants, order, number):
            return False
    return True


def is_gone(ground, heads, wants, order, number):
    """True where the going of a cell, by the told heads, tells its head and wants just its wants, all ahead of it."""
    going = Going(ground, number)
    found = []
    stop = going.begin()
    while stop[0] == "want":
        wanted = stop[1]
        if wanted not in heads or order[wanted] >= order[number]:
            return False
        if wanted not in found:
            found.append(wanted)
        stop = going.take_head(heads[wanted])
    return stop == ("head", heads[number]) and found == wants[number]


def are_there(ground, heads, head):
    """True where all parts of a head, and theirs, have heads."""
    if head[0] == "tag":
        return True
    return all([is_there(ground, heads, thing) for thing in head[1:]])


def is_there(ground, heads, thing):
    """True where a part of a head has a head, and all parts of it have."""
    if thing[0] == "cell":
        return thing[1] in heads and are_there(ground, heads, heads[thing[1]])
    if thing[0] == "given":
        return is_whole(ground.part_given(thing[1], thing[2]))
    return True
