"""The round of a made row: a stem and a ring, or all its heads [28]."""

from wantway.made import step_of


class Course:
    """A made row and its rests, each once, with the heads of those that have more.

    again is the number of the one that is the last one's rest; None where the last one has no more.
    """

    def __init__(self, mades, heads, again):
        self.mades = mades
        self.heads = heads
        self.again = again

    def head_at(self, number):
        """A list of the head of the made row of this number; the empty one where it has no more."""
        return self.heads[number:number + 1]

    def behind(self, number):
        """The number of the rest of the made row of this number, which has more."""
        if number + 1 < len(self.mades):
            return number + 1
        return self.again


def course_of(rows, made):
    """The course of a made row."""
    numbers = {}
    found = []
    following = made
    while following not in numbers:
        numbers[following] = len(numbers)
        step = step_of(rows, following)
        if step is None:
            return Course(list(numbers), found, None)
        found.append(step[0])
        following = step[1]
    return Course(list(numbers), found, numbers[following])


def round_of(rows, made):
    """("round", stem, ring) with the shortest stem, and the shortest ring with it; or ("ends", heads)."""
    course = course_of(rows, made)
    if course.again is None:
        return ("ends", course.heads)
    stem = course.heads[:course.again]
    ring = shortest_ring(course.heads[course.again:])
    # A stem's last head that is the ring's last as well is one more head of the ring.
    while len(stem) > 0 and stem[-1] == ring[-1]:
        ring = [stem.pop()] + ring[:-1]
    return ("round", stem, ring)


def shortest_ring(ring):
    """The shortest list of heads which, again and again, is this ring."""
    size = 1
    while ring[size:] + ring[:size] != ring:
        size += 1
    return ring[:size]
