"""The refusals of the program: WantError, and right under it one class for each."""


class WantError(ValueError):
    """Any refusal of the program."""


class NoKinds(WantError):
    """What was told are no kinds."""


class NoWorth(WantError):
    """There is no such worth."""


class NoAsking(WantError):
    """No definition or row has the name, or the worths are no row of its."""


class NoPart(WantError):
    """There is no such parameter, or no such part of it."""


class NoMost(WantError):
    """The most that was told is beyond its bounds."""


class NoMore(WantError):
    """A row has neither head nor rest."""


class NoCell(WantError):
    """No cell has the name."""


class NoBook(WantError):
    """The definition of this number is wrong: its head, place None, or its body at place."""

    def __init__(self, number, place):
        self.number = number
        self.place = place


class Falling(WantError):
    """Of two rows of a table, the one under the other, the worths are not."""

    def __init__(self, one, other):
        self.one = one
        self.other = other


class Torn(WantError):
    """At this row of a table there is nothing that is wanted next."""

    def __init__(self, row):
        self.row = row


class NoNote(WantError):
    """The note of this number is none, or is there already."""

    def __init__(self, number):
        self.number = number


class NoRows(WantError):
    """The row of this number is wrong."""

    def __init__(self, number):
        self.number = number


class NoSheet(WantError):
    """The cell of this number is wrong."""

    def __init__(self, number):
        self.number = number
