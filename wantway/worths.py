"""Worths: None, tags, and pairs of worths [6], [7]."""

from wantway.errors import NoWorth


def is_under(one, other):
    """True where the one of two worths of a kind is under the other."""
    if one is None:
        return True
    if isinstance(one, tuple) and isinstance(other, tuple):
        return is_under(one[0], other[0]) and is_under(one[1], other[1])
    return one == other


def is_row_under(one, other):
    """True where each worth of the one row is under that of the other."""
    return all([is_under(first, second) for first, second in zip(one, other)])


def is_whole(worth):
    """True where no None stands in a worth."""
    if isinstance(worth, tuple):
        return is_whole(worth[0]) and is_whole(worth[1])
    return worth is not None


def joined(one, other):
    """The least worth that two worths of a kind are under; NoWorth where there is none."""
    if one is None:
        return other
    if other is None:
        return one
    if isinstance(one, tuple) and isinstance(other, tuple):
        return (joined(one[0], other[0]), joined(one[1], other[1]))
    if one != other:
        raise NoWorth(f"no worth has both {one} and {other} under it")
    return one


def part_of(worth, way):
    """The part of a worth at a way; behind None and behind a tag it is None."""
    part = worth
    for number in way:
        if not isinstance(part, tuple):
            return None
        part = part[number]
    return part


def unknown_ways(worth):
    """The ways at which None stands itself in a worth, sorted."""
    if worth is None:
        return [()]
    if not isinstance(worth, tuple):
        return []
    # No such way begins another one, so first part before second is the sorted order.
    return ways_behind(0, worth) + ways_behind(1, worth)


def ways_behind(number, worth):
    """The unknown ways of a pair that lead through its part of this number."""
    return [(number,) + way for way in unknown_ways(worth[number])]
