"""Books that count down by one cell in another, far down."""

from samples import name, one, other, pair
from wantway.books import Book

KINDS = [("four", ("tags", ("A", "B", "C", "D"))), ("twin", ("pair", "four", "four"))]
TAGS = "ABCD"


def wrapped(body):
    """The body in six cells, each made in the going of the one around it."""
    for again in range(3):
        body = one(pair(other(pair(("tag", "A"), body)), ("tag", "A")))
    return body


def counted_body(counted, handed_on, last, step):
    """Counts its parameters down, from D to A, the last one fastest, asking step, then tells the body last."""
    every = counted + handed_on

    def below(x, tag):
        arguments = [name(y) for y in every]
        for at, y in enumerate(counted):
            if y == x:
                arguments[at] = ("tag", TAGS[TAGS.index(tag) - 1])
            if y > x:
                arguments[at] = ("tag", "D")
        return ("ask", step, tuple(arguments))

    body = last
    for x in counted:
        body = ("choose", name(x), (("A", body),) + tuple((tag, below(x, tag)) for tag in TAGS[1:]))
    return body


def step_to(f, every):
    """The body of a step that leads to f through six cells."""
    return wrapped(("ask", f, tuple(name(x) for x in every)))


def book(counted, handed_on, last, more=()):
    """f counts its parameters down, then tells the body last.

    Each step leads through a definition step, and is seven cells deep; handed_on are parameters that stay.
    """
    every = counted + handed_on
    parameters = tuple((x, "four") for x in every)
    return Book(KINDS, [
        ("f", parameters, "four", counted_body(counted, handed_on, last, "step")),
        ("step", parameters, "four", step_to("f", every)),
    ] + list(more))


def book_by_two_steps(counted, last):
    """As book, but each step leads through two definitions, and is thirteen cells deep."""
    parameters = tuple((x, "four") for x in counted)
    return Book(KINDS, [
        ("f", parameters, "four", counted_body(counted, "", last, "first")),
        ("first", parameters, "four", step_to("second", counted)),
        ("second", parameters, "four", step_to("f", counted)),
    ])
