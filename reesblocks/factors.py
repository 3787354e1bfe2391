"""Simple, 0-simple and null semigroups, and principal factors (points 3.5 and 3.6)."""

from reesblocks.green import is_regular, j_classes
from reesblocks.parts import ideal, least_ideal, restricted
from reesblocks.semigroup import Semigroup


def principal_factor(s, x):
    """Return the semigroup of the J-class of x, with a zero as the last element if it is not the kernel."""
    classes = j_classes(s)
    members = tuple([y for y in range(s.n) if classes[y] == classes[x]])
    if members == least_ideal(s):
        return restricted(s, members)
    last = len(members)
    places = {y: place for place, y in enumerate(members)}
    rows = [[places.get(s.table[y][z], last) for z in members] + [last] for y in members]
    return Semigroup(rows + [[last] * (last + 1)])


def factor_kind(s, x):
    """Return "simple", "zerosimple" or "null" for the principal factor of x."""
    if x in least_ideal(s):
        return "simple"
    return "zerosimple" if is_regular(s, x) else "null"


def is_simple(s):
    """Tell whether the semigroup has no ideal but itself."""
    return len(least_ideal(s)) == s.n


def is_zero_simple(s):
    """Tell whether there is a zero, some product is not zero, and there are no ideals but the zero and all."""
    zero = s.zero()
    if zero is None or is_null(s):
        return False
    return all([len(ideal(s, (x,))) == s.n for x in range(s.n) if x != zero])


def is_null(s):
    """Tell whether all products are one element, which is a zero then."""
    return all([xy == s.table[0][0] for row in s.table for xy in row])
