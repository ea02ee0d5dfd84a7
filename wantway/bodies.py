"""Bodies, the bodies right in them, and their places [8]."""


def parts(body):
    """The bodies right in a body, a tuple in their order."""
    word = body[0]
    if word in ("tag", "name"):
        return ()
    if word == "choose":
        return (body[1],) + tuple([branch for tag, branch in body[2]])
    if word == "ask":
        return body[2]
    if word == "let":
        return body[3:]
    return body[1:]


def with_parts(body, some):
    """The body with these parts in place of its own."""
    word = body[0]
    if word in ("tag", "name"):
        return body
    if word == "choose":
        tags = [tag for tag, branch in body[2]]
        return (word, some[0], tuple(zip(tags, some[1:])))
    if word == "ask":
        return (word, body[1], tuple(some))
    if word == "let":
        return body[:3] + tuple(some)
    return (word,) + tuple(some)


def places(body):
    """The places of all bodies in a body, its own with them, sorted."""
    found = [()]
    for number, part in enumerate(parts(body)):
        found.extend([(number,) + place for place in places(part)])
    return found


def part_at(body, place):
    """The body at a place in a body."""
    part = body
    for number in place:
        part = parts(part)[number]
    return part
