"""Kinds: which worths there are [5], [6]."""

from wantway.errors import NoKinds
from wantway.texts import is_name, is_tag
from wantway.worths import is_whole

MOST_KINDS = 6
MOST_TAGS = 4
MOST_WORTHS = 30
MOST_PAIRS_DEEP = 2


class Kinds:
    """The kinds that a list of tuples (name, shape) tells; NoKinds where it tells none."""

    def __init__(self, told):
        if not 1 <= len(told) <= MOST_KINDS:
            raise NoKinds(f"kinds are one to {MOST_KINDS}, not {len(told)}")
        self.shapes = {}
        self.worths = {}
        self.heights = {}
        self.pairs_deep = {}
        self.tag_kinds = {}
        self.pair_kinds = {}
        for name, shape in told:
            self.take(name, shape)

    def take(self, name, shape):
        """Take one kind more, behind those that were told ahead of it."""
        if not is_name(name):
            raise NoKinds(f"{name!r} is no name")
        if name in self.shapes:
            raise NoKinds(f"two kinds are called {name}")
        if len(shape) == 2 and shape[0] == "tags":
            self.take_tags(name, shape[1])
        elif len(shape) == 3 and shape[0] == "pair":
            self.take_pair(name, shape[1], shape[2])
        else:
            raise NoKinds(f"{name} has no shape of a kind")
        self.shapes[name] = shape

    def take_tags(self, name, tags):
        """Take a kind of tags."""
        if not 1 <= len(tags) <= MOST_TAGS:
            raise NoKinds(f"{name} has no tags, or more than {MOST_TAGS}")
        for tag in tags:
            if not is_tag(tag):
                raise NoKinds(f"{tag!r} is no tag")
            if tag in self.tag_kinds:
                raise NoKinds(f"{tag} stands twice")
            self.tag_kinds[tag] = name
        self.worths[name] = [None] + list(tags)
        self.heights[name] = 1
        self.pairs_deep[name] = 0

    def take_pair(self, name, one, other):
        """Take a kind of pairs."""
        if one not in self.shapes or other not in self.shapes:
            raise NoKinds(f"a part of {name} is no kind that was told ahead")
        if (one, other) in self.pair_kinds:
            raise NoKinds(f"{name} has the shape of {self.pair_kinds[(one, other)]}")
        deep = 1 + max(self.pairs_deep[one], self.pairs_deep[other])
        if deep > MOST_PAIRS_DEEP:
            raise NoKinds(f"in {name} more than {MOST_PAIRS_DEEP} pairs stand within one another")
        worths = [None] + [(first, second) for first in self.worths[one] for second in self.worths[other]]
        if len(worths) > MOST_WORTHS:
            raise NoKinds(f"{name} has more than {MOST_WORTHS} worths")
        self.pair_kinds[(one, other)] = name
        self.worths[name] = worths
        self.heights[name] = 1 + self.heights[one] + self.heights[other]
        self.pairs_deep[name] = deep

    def names(self):
        """The names of all kinds, as they were told."""
        return list(self.shapes)

    def worths_of(self, kind):
        """All worths of a kind, in their order."""
        return list(self.worths[kind])

    def wholes_of(self, kind):
        """The whole worths of a kind, in their order."""
        return [worth for worth in self.worths[kind] if is_whole(worth)]

    def shape_of(self, kind):
        """The shape of a kind, as it was told."""
        return self.shapes[kind]

    def height_of(self, kind):
        """The height of a kind."""
        return self.heights[kind]

    def kind_of_tag(self, tag):
        """The kind that has a tag, or None."""
        return self.tag_kinds.get(tag)

    def kind_of_pair(self, one, other):
        """The kind of the pairs of two kinds, or None."""
        return self.pair_kinds.get((one, other))

    def is_worth(self, kind, thing):
        """True where a thing, whatever it is, is a worth of a kind."""
        if thing is None:
            return True
        shape = self.shapes[kind]
        if shape[0] == "tags":
            return isinstance(thing, str) and thing in shape[1]
        if not isinstance(thing, tuple) or len(thing) != 2:
            return False
        return self.is_worth(shape[1], thing[0]) and self.is_worth(shape[2], thing[1])


def is_of_tags(kinds, kind):
    """True where this is one of the kinds, and one of tags."""
    return kind in kinds.names() and kinds.shape_of(kind)[0] == "tags"
