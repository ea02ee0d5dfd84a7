"""A second, plain reading of [18] to [21], [23] and [24], by births themselves: for small walks only."""


class Stop(Exception):
    """A walk comes to this outcome."""

    def __init__(self, outcome):
        self.outcome = outcome


def start_of_asking(book, f, worths):
    names = [x for x, kind in book.parameters(f)]
    return (f, (), {x: ("given", i, ()) for i, x in enumerate(names)})


def parts_of(body):
    """(number, part) of all bodies right in a body."""
    if body[0] == "ask":
        return dict(enumerate(body[2]))
    if body[0] == "choose":
        return dict(enumerate([body[1]] + [branch for tag, branch in body[2]]))
    if body[0] == "let":
        return dict(enumerate(body[3:]))
    return dict(enumerate(part for part in body[1:] if isinstance(part, tuple)))


def given_head(worths, i, way):
    if i not in range(len(worths)):
        raise Stop(("never", i, way))
    worth = worths[i]
    for number in way:
        worth = worth[number] if isinstance(worth, tuple) and number in (0, 1) else None
    if worth is None:
        raise Stop(("never", i, way))
    if isinstance(worth, tuple):
        return ("pair", ("given", i, way + (0,)), ("given", i, way + (1,)))
    return ("tag", worth)


def is_of_asking(book, starts, birth):
    """Whether this cell is the asking's own, or was made for a body that asks."""
    if birth == ():
        return True
    maker, place = birth
    body = book.body_of(starts[maker][0])
    for number in place:
        body = parts_of(body)[number]
    return body[0] == "ask"


def go(book, worths, starts, birth, want, notes=()):
    """The head of going into a cell; starts has, and is given, where cells start, want tells the head of a birth."""
    f, first_place, first_around = starts[birth]

    def thing(body, place, around, own=None):
        if body[0] == "tag":
            return body
        if body[0] == "name" and body[1] != own:
            return around[body[1]]
        if body[0] == "ask":
            names = [x for x, kind in book.parameters(body[1])]
            things = [thing(part, place + (at,), around) for at, part in enumerate(body[2])]
            starts[(birth, place)] = (body[1], (), dict(zip(names, things)))
        else:
            starts[(birth, place)] = (f, place, around)
        return ("cell", (birth, place))

    def head_of(what):
        if what[0] == "cell":
            return want(what[1])
        if what[0] == "given":
            return given_head(worths, what[1], what[2])
        return what

    def along(body, place, around):
        word = body[0]
        if word == "tag":
            return body
        if word == "name":
            return head_of(around[body[1]])
        if word == "pair":
            return ("pair", thing(body[1], place + (0,), around), thing(body[2], place + (1,), around))
        if word == "ask":
            return head_of(thing(body, place, around))
        if word == "let":
            x, own = body[1], body[3]
            within = {**around, x: ("cell", (birth, place + (0,)))}
            within[x] = thing(own, place + (0,), within, x)
            return along(body[4], place + (1,), within)
        head = along(body[1], place + (0,), around)
        if word == "choose":
            tags = [tag for tag, branch in body[2]]
            if head[0] != "tag" or head[1] not in tags:
                raise Stop(("unfit",))
            at = tags.index(head[1])
            return along(body[2][at][1], place + (1 + at,), around)
        if head[0] != "pair":
            raise Stop(("unfit",))
        return head_of(head[1 if word == "one" else 2])

    if is_of_asking(book, starts, birth):
        for g, i, way in notes:
            if g == f:
                head = head_of(first_around[book.parameters(f)[i][0]])
                for number in way:
                    head = head_of(head[1 + number])
    body = book.body_of(f)
    for number in first_place:
        body = parts_of(body)[number]
    return along(body, first_place, first_around)


def outcome_of(worths, want, whole):
    """What comes of the asking's own cell, want telling the head of a birth."""

    def worth_of(head):
        return head[1] if head[0] == "tag" else tuple(worth_of(head_of(part)) for part in head[1:])

    def head_of(thing):
        if thing[0] == "given":
            return given_head(worths, thing[1], thing[2])
        return want(thing[1]) if thing[0] == "cell" else thing

    try:
        head = want(())
        if whole or head[0] == "tag":
            return ("worth", worth_of(head))
        return ("worth", (None, None))
    except Stop as stop:
        return stop.outcome


def by_names(book, f, worths, most, whole=False):
    """(outcome, count) by names."""
    gone = []

    def want(birth):
        if len(gone) == most:
            raise Stop(("dry",))
        gone.append(birth)
        return go(book, worths, starts, birth, want)

    starts = {(): start_of_asking(book, f, worths)}
    return outcome_of(worths, want, whole), len(gone)


def walk(book, f, worths, most, whole=False, notes=()):
    """(outcome, done, way) by want, and by notes."""
    starts = {(): start_of_asking(book, f, worths)}
    heads, wants, under_way, begun, done = {}, {}, [], [], []

    def want(birth):
        wanter = under_way[-1] if under_way else None
        if wanter is not None and birth not in wants[wanter]:
            wants[wanter].append(birth)
        if birth in heads:
            return heads[birth]
        if birth in under_way:
            raise Stop(("ring", under_way[under_way.index(birth):]))
        if len(begun) == most:
            raise Stop(("dry",))
        begun.append(birth)
        under_way.append(birth)
        wants[birth] = []
        heads[birth] = go(book, worths, starts, birth, want, notes)
        under_way.pop()
        done.append((birth, wanter))
        return heads[birth]

    outcome = outcome_of(worths, want, whole)
    return outcome, done, [(birth, heads[birth], wants[birth]) for birth, wanter in done]


def way_is_right(book, f, worths, way, whole=False):
    """Whether this is a way of doing, each row looked at by itself."""
    births = [birth for birth, head, wants in way]
    heads = {birth: head for birth, head, wants in way}
    if len(heads) < len(way) or () not in heads:
        return False
    if not all(row_is_right(book, f, worths, way, at) for at in range(len(way))):
        return False

    def there(thing):
        if thing[0] == "tag":
            return True
        if thing[0] == "cell":
            return thing[1] in births and all(there(part) for part in things_of(heads[thing[1]]))
        try:
            return all(there(part) for part in things_of(given_head(worths, thing[1], thing[2])))
        except Stop:
            return False

    return not whole or all(there(part) for part in things_of(heads[()]))


def things_of(head):
    return head[1:] if head[0] == "pair" else ()


def row_is_right(book, f, worths, way, at):
    heads = {birth: head for birth, head, wants in way}
    birth, head, wants = way[at]
    starts = {(): start_of_asking(book, f, worths)}
    makers = [birth]
    while makers[-1] != ():
        makers.append(makers[-1][0])
    wanted = []

    def want(other):
        if other not in heads:
            raise Stop(("unfit",))
        if other not in wanted:
            wanted.append(other)
        return heads[other]

    try:
        for maker in reversed(makers):
            if maker not in heads or maker not in starts:
                return False
            wanted.clear()
            told = go(book, worths, starts, maker, want)
    except Stop:
        return False
    ahead = [other for other, its_head, its_wants in way[:at]]
    return told == head and wanted == wants and all(other in ahead for other in wanted)
