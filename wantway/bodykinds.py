"""The kind of a body by the names around, or the least place at which it is wrong [10]."""

from wantway.bodies import parts


def kind_or_place(book, around, body):
    """(kind, None) of a right body, (None, place) of a wrong one, place the least wrong one in it."""
    within = around
    if body[0] == "let":
        if body[1] in around or body[2] not in book.kinds().names():
            return (None, ())
        within = dict(around)
        within[body[1]] = body[2]
    found = []
    for number, part in enumerate(parts(body)):
        kind, place = kind_or_place(book, within, part)
        if kind is None:
            return (None, (number,) + place)
        found.append(kind)
    rule = RULES[body[0]]
    kind = rule(book, around, body, found)
    if kind is None:
        return (None, ())
    return (kind, None)


# Each rule tells a body's kind, or None where it is wrong; found are the kinds of its parts, which are right.


def kind_of_tag_body(book, around, body, found):
    """Of a tag the kind that has it."""
    return book.kinds().kind_of_tag(body[1])


def kind_of_name_body(book, around, body, found):
    """Of a name its own kind, where it is around."""
    return around.get(body[1])


def kind_of_pair_body(book, around, body, found):
    """Of a pair the kind of this shape."""
    return book.kinds().kind_of_pair(found[0], found[1])


def kind_of_one_body(book, around, body, found):
    """Of one the kind of the first part."""
    return kind_of_part(book, found[0], 1)


def kind_of_other_body(book, around, body, found):
    """Of other the kind of the second part."""
    return kind_of_part(book, found[0], 2)


def kind_of_part(book, kind, at):
    """The kind that stands at this number in a pair's shape, None of a kind of tags."""
    shape = book.kinds().shape_of(kind)
    if shape[0] != "pair":
        return None
    return shape[at]


def kind_of_choose_body(book, around, body, found):
    """Of choose the one kind of its branches, which stand by all tags of E's kind in their order."""
    shape = book.kinds().shape_of(found[0])
    if shape[0] != "tags" or tuple([tag for tag, branch in body[2]]) != shape[1]:
        return None
    kind = found[1]
    if any([other != kind for other in found[2:]]):
        return None
    return kind


def kind_of_ask_body(book, around, body, found):
    """Of ask the kind told of f, whose parameters are of the arguments' kinds."""
    if body[1] not in book.names():
        return None
    if [kind for name, kind in book.parameters(body[1])] != found:
        return None
    return book.kind_of(body[1])


def kind_of_let_body(book, around, body, found):
    """Of a let the kind of B, where E is of K."""
    if found[0] != body[2]:
        return None
    return found[1]


RULES = {
    "tag": kind_of_tag_body,
    "name": kind_of_name_body,
    "pair": kind_of_pair_body,
    "one": kind_of_one_body,
    "other": kind_of_other_body,
    "choose": kind_of_choose_body,
    "ask": kind_of_ask_body,
    "let": kind_of_let_body,
}
