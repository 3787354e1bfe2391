"""Green's relations, egg boxes, regular elements and groups in a semigroup (points 3.1 to 3.4)."""

from reesblocks.errors import Refused
from reesblocks.parts import ideal, left_ideal, right_ideal
from reesblocks.whole import by_keys, joined, meet


def r_classes(s):
    """Return the equivalence of x and y with x S^1 = y S^1."""
    return by_keys([right_ideal(s, (x,)) for x in range(s.n)])


def l_classes(s):
    """Return the equivalence of x and y with S^1 x = S^1 y."""
    return by_keys([left_ideal(s, (x,)) for x in range(s.n)])


def h_classes(s):
    """Return the equivalence of elements that are R- and L-related."""
    return meet(r_classes(s), l_classes(s))


def d_classes(s):
    """Return the equivalence of x and y for which some z is R-related to x and L-related to y."""
    # It is an equivalence with both relations in it, and lies in each one that has both: so it is their join.
    return joined(r_classes(s), l_classes(s))


def j_classes(s):
    """Return the equivalence of x and y with S^1 x S^1 = S^1 y S^1."""
    return by_keys([ideal(s, (x,)) for x in range(s.n)])


def r_at_most(s, x, y):
    """Tell whether x S^1 is a part of y S^1."""
    return x in right_ideal(s, (y,))


def l_at_most(s, x, y):
    """Tell whether S^1 x is a part of S^1 y."""
    return x in left_ideal(s, (y,))


def j_at_most(s, x, y):
    """Tell whether S^1 x S^1 is a part of S^1 y S^1."""
    return x in ideal(s, (y,))


def egg_box(s, x):
    """Return the rows of H-classes of the D-class of x: a row for each R-class, a column for each L-class."""
    rights, lefts, both = r_classes(s), l_classes(s), d_classes(s)
    box = [y for y in range(s.n) if both[y] == both[x]]
    rows = sorted({rights[y] for y in box})
    columns = sorted({lefts[y] for y in box})
    return tuple([
        tuple([tuple([y for y in box if rights[y] == row and lefts[y] == column]) for column in columns])
        for row in rows
    ])


def is_regular(s, x):
    """Tell whether x = x y x for some y."""
    return any([s.table[xy][x] == x for xy in s.table[x]])


def regular_elements(s):
    """Return the ascending tuple of the regular elements."""
    return tuple([x for x in range(s.n) if is_regular(s, x)])


def is_group_class(s, x):
    """Tell whether the H-class of x holds an idempotent."""
    classes = h_classes(s)
    return any([classes[e] == classes[x] for e in s.idempotents()])


def group_at(s, e):
    """Return the elements of the H-class of an idempotent, e first, and the table of their places."""
    if s.table[e][e] != e:
        raise Refused("idempotent")
    classes = h_classes(s)
    others = [x for x in range(s.n) if classes[x] == classes[e] and x != e]
    members = (e, *others)
    table = tuple([tuple([members.index(s.table[x][y]) for y in members]) for x in members])
    return members, table
