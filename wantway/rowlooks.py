"""Whether made rows are alike [28], whether stands have no more, and what shows it [29]."""

from wantway.errors import NoAsking
from wantway.made import step_of
from wantway.rounds import course_of
from wantway.rows import led_on


def alike(rows, one, other):
    """("alike", pairs) of two made rows, pairs that show it; or ("part", n), n the least number at which they part."""
    first = course_of(rows, one)
    second = course_of(rows, other)
    pairs = []
    seen = {}
    at = (0, 0)
    while at not in seen:
        seen[at] = True
        its_head = first.head_at(at[0])
        if its_head != second.head_at(at[1]):
            return ("part", len(pairs))
        pairs.append((first.mades[at[0]], second.mades[at[1]]))
        if its_head == []:
            return ("alike", pairs)
        at = (first.behind(at[0]), second.behind(at[1]))
    return ("alike", pairs)


def are_pairs(rows, one, other, pairs):
    """True where pairs show two made rows alike."""
    there = {pair: True for pair in pairs}
    if (one, other) not in there:
        return False
    return all([is_pair(rows, pair, there) for pair in there])


def is_pair(rows, pair, there):
    """True where of two made rows neither has more, or both have, with one head, and both rests are there."""
    try:
        first = step_of(rows, pair[0])
        second = step_of(rows, pair[1])
    except NoAsking:
        return False
    if first is None or second is None:
        return first == second
    return first[0] == second[0] and (first[1], second[1]) in there


def ended(rows, r, worths):
    """Stands that show that one has no more; None where it has."""
    stands, step = led_on(rows, r, worths)
    if step[0] == "then":
        return None
    return stands


def are_ended(rows, r, worths, stands):
    """True where stands show that one has no more; NoAsking where this is no stand."""
    rows.step(r, worths)
    if (r, worths) not in stands:
        return False
    return all([is_ended(rows, stand, stands) for stand in stands])


def is_ended(rows, stand, stands):
    """True where a step leads from a stand to nothing, or by on to one of these; of what is no stand False."""
    if not rows.is_stand(stand[0], stand[1]):
        return False
    step = rows.step(stand[0], stand[1])
    return step == ("nothing",) or step[0] == "on" and step[1] in stands
