"""Tables told by hand, and the trees that tell the same by looks [17]."""

from wantway.books import rows_over
from wantway.errors import Falling, Torn
from wantway.needs import wanted_at
from wantway.worths import is_row_under, is_under


def tree_of(kinds, parameters, kind, table):
    """A tree that tells what a table does, with the fewest looks on its longest way; Falling, Torn if there is none."""
    rows = rows_over(kinds, parameters)
    check_rising(rows, table)
    wanted = {row: wanted_at(table, row) for row in rows}
    for row in rows:
        if table[row] is None and wanted[row] == []:
            raise Torn(row)
    tags = [kinds.wholes_of(its_kind) for name, its_kind in parameters]
    return tree_from(tags, table, wanted, (None,) * len(tags))


def check_rising(rows, table):
    """Falling where of two rows, the one under the other, the worths aren't."""
    for one in rows:
        for other in rows:
            if is_row_under(one, other) and not is_under(table[one], table[other]):
                raise Falling(one, other)


def tree_from(tags, table, wanted, row):
    """The tree from a row on; tags are those of each parameter, wanted what is wanted next at each row."""
    if table[row] is not None:
        return ("tag", table[row])
    if wanted[row] is None:
        return ("never",)
    # Whichever wanted parameter is looked at first, each way to a tag looks at just what the least row with this
    # worth knows, and a look whose branches were all never would be never: so all such trees have one longest way.
    i, way = wanted[row][0]
    branches = [(tag, tree_from(tags, table, wanted, row[:i] + (tag,) + row[i + 1:])) for tag in tags[i]]
    return ("look", i, tuple(branches))


def tree_worth(tree, worths):
    """What a tree tells at a row of worths."""
    while tree[0] == "look":
        branches = dict(tree[2])
        if worths[tree[1]] is None:
            return None
        tree = branches[worths[tree[1]]]
    if tree[0] == "never":
        return None
    return tree[1]


def tree_body(tree, f, parameters):
    """A tree as the body of a definition f with these parameters."""
    if tree[0] == "tag":
        return tree
    if tree[0] == "never":
        # Asked of itself, the same asking never comes to anything.
        return ("ask", f, tuple([("name", name) for name, kind in parameters]))
    branches = tuple([(tag, tree_body(branch, f, parameters)) for tag, branch in tree[2]])
    return ("choose", ("name", parameters[tree[1]][0]), branches)
