"""Rees matrix semigroups: their data, coordinates in them, and the normal form (points 4.2 to 4.5)."""

from reesblocks.errors import Malformed, Refused
from reesblocks.factors import is_simple, is_zero_simple
from reesblocks.green import group_at, l_classes, r_classes
from reesblocks.groups import form_and_orders, is_group_table, places_in
from reesblocks.matrices import NONE, least_matrix, turned
from reesblocks.semigroup import Semigroup, refuse_large
from reesblocks.whole import is_below, is_integer


class Rees:
    """The data of a Rees matrix semigroup: whether there is a zero, a group's table, and a regular matrix."""

    def __init__(self, zero, group, matrix):
        if not isinstance(zero, bool) or not is_group_table(group):
            raise Malformed("these are no True or False and no table of a group with the unit 0")
        if not _is_matrix(matrix, len(group), zero):
            raise Malformed("the matrix is none over this group")
        many = len(matrix[0]) * len(group) * len(matrix)
        refuse_large(many + 1 if zero else many)
        self.zero = zero
        self.group = tuple([tuple(row) for row in group])
        self.matrix = tuple([tuple(row) for row in matrix])
        for line in self.matrix + turned(self.matrix):
            if all([entry == NONE for entry in line]):
                raise Refused("regular")

    def __eq__(self, other):
        return (
            isinstance(other, Rees) and self.zero == other.zero
            and self.group == other.group and self.matrix == other.matrix
        )

    def size(self):
        """Return the number of elements of the semigroup."""
        triples = len(self.matrix[0]) * len(self.group) * len(self.matrix)
        return triples + 1 if self.zero else triples

    def number(self, i, g, k):
        """Return the number of a triple."""
        return (i * len(self.group) + g) * len(self.matrix) + k

    def triple(self, x):
        """Return the triple with this number, None for the zero."""
        if self.zero and x == self.size() - 1:
            return None
        rest, k = divmod(x, len(self.matrix))
        i, g = divmod(rest, len(self.group))
        return i, g, k

    def semigroup(self):
        """Return the semigroup of the numbers."""
        triples = [self.triple(x) for x in range(self.size())]
        return Semigroup([[self._times(one, two) for two in triples] for one in triples])

    def _times(self, one, two):
        """Return the number of the product of two triples, either of which is None for the zero."""
        zero = self.size() - 1
        if one is None or two is None:
            return zero
        (i, g, k), (j, h, l) = one, two
        entry = self.matrix[k][j]
        return zero if entry == NONE else self.number(i, self.group[self.group[g][entry]][h], l)


def coordinates(s):
    """Return Rees data and an isomorphism from the semigroup onto that of the data, by numbers."""
    zero = is_zero_simple(s)
    if not zero and not is_simple(s):
        raise Refused("simple")
    e = [x for x in s.idempotents() if not zero or x != s.zero()][0]
    members, group = group_at(s, e)
    rights, lefts = r_classes(s), l_classes(s)
    # No class of the zero is met here, since it is a class of its own.
    columns = _one_of_each(rights, lefts, e)
    rows = _one_of_each(lefts, rights, e)
    places = {x: g for g, x in enumerate(members)}
    data = Rees(zero, group, [[places.get(s.table[q][r], NONE) for r in columns] for q in rows])
    # The zero has the last number; what is not zero gets its own one.
    images = [data.size() - 1] * s.n
    for i, r in enumerate(columns):
        for g, x in enumerate(members):
            for k, q in enumerate(rows):
                images[s.product((r, x, q))] = data.number(i, g, k)
    return data, tuple(images)


def normal_form(data):
    """Return the normal form of Rees data."""
    return to_form(data)[0]


def to_form(data):
    """Return the normal form, and an isomorphism from the semigroup of the data onto that of the normal form."""
    group, orders = form_and_orders(data.group)
    matrix, moved, rows, columns = least_matrix(data.matrix, group, [places_in(order) for order in orders])
    form = Rees(data.zero, group, matrix)
    images = []
    for x in range(data.size()):
        triple = data.triple(x)
        if triple is None:
            images.append(form.size() - 1)
        else:
            i, g, k = triple
            (column, behind), (row, ahead) = columns[i], rows[k]
            middle = group[_inverse(group, behind)][moved[g]]
            images.append(form.number(column, group[middle][_inverse(group, ahead)], row))
    return form, tuple(images)


def alike(a, b):
    """Tell whether the semigroups of two data are isomorphic."""
    return normal_form(a) == normal_form(b)


def _is_matrix(value, order, zero):
    """Tell whether the value is a list or tuple of rows of one length of elements, or also -1 if there is a zero."""
    if not isinstance(value, (list, tuple)) or len(value) == 0:
        return False
    for row in value:
        if not isinstance(row, (list, tuple)) or len(row) == 0 or len(row) != len(value[0]):
            return False
        # An integer is asked for first, since other values may be equal to -1 as well.
        if not all([is_below(entry, order) or (zero and is_integer(entry) and entry == NONE) for entry in row]):
            return False
    return True


def _inverse(group, g):
    """Return the inverse of an element of a group."""
    return group[g].index(0)


def _one_of_each(classes, others, e):
    """Return for each of the classes one element of it that is in the class of e of the other equivalence."""
    found = {}
    for x, label in enumerate(classes):
        if others[x] == others[e]:
            found.setdefault(label, x)
    return list(found.values())
