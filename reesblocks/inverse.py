"""Inverses, inverse semigroups, their natural order and representation (points 7.1 to 7.3)."""

from reesblocks.errors import Malformed, Refused
from reesblocks.whole import by_keys

NOWHERE = -1


def inverses_of(s, x):
    """Return the ascending tuple of the y with x y x = x and y x y = y."""
    _need_element(s, x)
    return tuple([y for y in range(s.n) if s.product((x, y, x)) == x and s.product((y, x, y)) == y])


def is_inverse_semigroup(s):
    """Tell whether each element has exactly one inverse."""
    return all([len(inverses_of(s, x)) == 1 for x in range(s.n)])


def inverse_map(s):
    """Return the tuple of the inverses of all elements."""
    found = [inverses_of(s, x) for x in range(s.n)]
    if not all([len(inverses) == 1 for inverses in found]):
        raise Refused("inverse")
    return tuple([inverses[0] for inverses in found])


def natural_at_most(s, x, y):
    """Tell whether x = e y for some idempotent e of an inverse semigroup."""
    _need_element(s, x)
    _need_element(s, y)
    _need_inverse_semigroup(s)
    return any([s.table[e][y] == x for e in s.idempotents()])


def group_congruence(s):
    """Return the least congruence of an inverse semigroup whose quotient is a group."""
    _need_inverse_semigroup(s)
    # This idempotent is below all others, so it goes to the unit and tells apart what any group tells apart.
    least = s.product(s.idempotents())
    return by_keys(s.table[least])


def representation(s):
    """Return the partial maps of the elements of an inverse semigroup: x takes y to y x where y x x^-1 = y."""
    maps = []
    for x, inverse in enumerate(inverse_map(s)):
        around = s.table[x][inverse]
        maps.append(tuple([row[x] if row[around] == y else NOWHERE for y, row in enumerate(s.table)]))
    return tuple(maps)


def _need_element(s, x):
    if not s.is_element(x):
        raise Malformed("this is no element")


def _need_inverse_semigroup(s):
    if not is_inverse_semigroup(s):
        raise Refused("inverse")
