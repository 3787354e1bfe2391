"""Checking papers (points 8.2 to 8.6). Only what chapter 1 tells, and what this chapter has of its own, is used."""

from reesblocks.counting import homomorphisms_up_to
from reesblocks.parts import is_ideal
from reesblocks.semigroup import Semigroup, is_associative, is_table
from reesblocks.whole import is_below, is_equivalence, is_integer

NONE = -1


def takes_pair(a, b, paper):
    """Tell whether a paper shows that two semigroups are isomorphic, or that they are not."""
    if _has_form(paper, "isomorphic", 2):
        return a.n == b.n and _is_isomorphism(a.table, b.table, paper[1])
    if _has_form(paper, "unlike", 4):
        return a.n == b.n and _has_unlike_numbers(a, b, paper[1], paper[2], paper[3])
    return _has_form(paper, "sizes", 1) and a.n != b.n


def takes_join(s, pairs, x, y, paper):
    """Tell whether a paper shows that the least congruence with the pairs joins x and y, or that it does not."""
    if _has_form(paper, "chain", 2):
        return isinstance(paper[1], tuple) and _leads(s, pairs, x, y, paper[1])
    if not _has_form(paper, "apart", 2) or not _is_congruence(s, paper[1]):
        return False
    classes = paper[1]
    return classes[x] != classes[y] and all([classes[one] == classes[other] for one, other in pairs])


def takes_rees(s, paper):
    """Tell whether a paper shows that a semigroup is simple or 0-simple, or that it is neither."""
    if _has_form(paper, "rees", 5):
        zero, group, matrix, coordinates = paper[1:]
        if not _is_rees(zero, group, matrix, s.n):
            return False
        return _is_isomorphism(s.table, _rees_table(zero, group, matrix), coordinates)
    if _has_form(paper, "ideal", 2):
        return is_ideal(s, paper[1]) and len(paper[1]) < s.n and paper[1] != (s.zero(),)
    if not _has_form(paper, "null", 2) or not s.is_element(paper[1]):
        return False
    return s.n > 1 and all([xy == paper[1] for row in s.table for xy in row])


def takes_inverse(s, paper):
    """Tell whether a paper shows that a semigroup is an inverse semigroup, or that it is none."""
    if _has_form(paper, "inverse", 2):
        return _are_inverses(s, paper[1]) and _idempotents_commute(s)
    if _has_form(paper, "not", 2):
        x = paper[1]
        return s.is_element(x) and all([s.table[xy][x] != x for xy in s.table[x]])
    if not _has_form(paper, "apart", 3) or not s.is_element(paper[1]) or not s.is_element(paper[2]):
        return False
    e, f = paper[1:]
    return s.table[e][e] == e and s.table[f][f] == f and s.table[e][f] != s.table[f][e]


def takes_identity(s, left, right, paper):
    """Tell whether a paper shows that the identity of two words holds, or that it fails."""
    if _has_form(paper, "holds", 1):
        every = list(range(s.n))
        triples = [(x, y, z) for x in every for y in every for z in every]
        return all([_value(s, left, triple) == _value(s, right, triple) for triple in triples])
    if not _has_form(paper, "fails", 2) or not isinstance(paper[1], tuple) or len(paper[1]) != 3:
        return False
    if not all([s.is_element(x) for x in paper[1]]):
        return False
    return _value(s, left, paper[1]) != _value(s, right, paper[1])


def _has_form(paper, kind, many):
    """Tell whether the value is a tuple of so many items that begins with this string."""
    return isinstance(paper, tuple) and len(paper) == many and paper[0] == kind


def _is_isomorphism(table, other, images):
    """Tell whether the value is the tuple of images of an isomorphism, for two tables of one size."""
    if not isinstance(images, tuple) or len(images) != len(table):
        return False
    if not all([is_below(image, len(table)) for image in images]) or len(set(images)) != len(table):
        return False
    for x, row in enumerate(table):
        if [images[xy] for xy in row] != [other[images[x]][image] for image in images]:
            return False
    return True


def _is_congruence(s, value):
    """Tell whether the value is the tuple of a congruence."""
    if not is_equivalence(value, s.n):
        return False
    for x, least in enumerate(value):
        for z in range(s.n):
            if value[s.table[x][z]] != value[s.table[least][z]] or value[s.table[z][x]] != value[s.table[z][least]]:
                return False
    return True


def _has_unlike_numbers(a, b, classes, m, k):
    """Tell whether m and k are the numbers of homomorphisms of the quotient of a to a and to b, and unlike."""
    if not _is_congruence(a, classes) or not is_integer(m) or not is_integer(k) or m == k or min(m, k) < 0:
        return False
    leaders = [x for x, least in enumerate(classes) if x == least]
    quotient = Semigroup([[leaders.index(classes[a.table[x][y]]) for y in leaders] for x in leaders])
    return homomorphisms_up_to(quotient, a, m) == m and homomorphisms_up_to(quotient, b, k) == k


def _leads(s, pairs, x, y, steps):
    """Tell whether the steps are those of a chain from x to y."""
    at = x
    for step in steps:
        if not _is_step(s, len(pairs), step):
            return False
        left, i, right, turned = step
        one, other = pairs[i]
        if turned == 1:
            one, other = other, one
        if _between(s, left, one, right) != at:
            return False
        at = _between(s, left, other, right)
    return at == y


def _is_step(s, many, step):
    """Tell whether the value is a tuple (left, i, right, turned) for so many pairs."""
    if not isinstance(step, tuple) or len(step) != 4 or not all([is_integer(item) for item in step]):
        return False
    left, i, right, turned = step
    return NONE <= left < s.n and 0 <= i < many and NONE <= right < s.n and 0 <= turned <= 1


def _between(s, left, x, right):
    """Return the product of left, x and right, without a factor where there is none."""
    if left != NONE:
        x = s.table[left][x]
    return x if right == NONE else s.table[x][right]


def _is_rees(zero, group, matrix, n):
    """Tell whether the values are Rees data with a regular matrix, of a semigroup with n elements."""
    if not isinstance(zero, bool) or not _is_rows(matrix) or not isinstance(group, (list, tuple)):
        return False
    # The number of elements comes first, since the values can be far too large for looking at all items.
    if len(matrix) * len(matrix[0]) * len(group) + (1 if zero else 0) != n or not _is_group(group):
        return False
    for row in matrix:
        for entry in row:
            if not is_below(entry, len(group)) and not (zero and is_integer(entry) and entry == NONE):
                return False
    lines = [list(row) for row in matrix] + [list(column) for column in zip(*matrix)]
    return all([line.count(NONE) < len(line) for line in lines])


def _is_rows(value):
    """Tell whether the value is a list or tuple of one or more lists or tuples of one length that is not 0."""
    if not isinstance(value, (list, tuple)) or len(value) == 0:
        return False
    if not all([isinstance(row, (list, tuple)) for row in value]):
        return False
    return len(value[0]) > 0 and all([len(row) == len(value[0]) for row in value])


def _is_group(value):
    """Tell whether the value is the table of a group whose unit is 0."""
    if not is_table(value) or not is_associative([tuple(row) for row in value]):
        return False
    return Semigroup(value).unit() == 0 and all([0 in row for row in value])


def _rees_table(zero, group, matrix):
    """Return the table of the Rees matrix semigroup of data, with the numbers of point 4.2."""
    triples = [
        (i, g, k) for i in range(len(matrix[0])) for g in range(len(group)) for k in range(len(matrix))
    ]
    last = len(triples)
    rows = []
    for i, g, k in triples:
        row = []
        for j, h, l in triples:
            entry = matrix[k][j]
            number = last if entry == NONE else (i * len(group) + group[group[g][entry]][h]) * len(matrix) + l
            row.append(number)
        rows.append(row + [last] if zero else row)
    return rows + [[last] * (last + 1)] if zero else rows


def _are_inverses(s, value):
    """Tell whether the value is a tuple that has for each element an inverse of it."""
    if not isinstance(value, tuple) or len(value) != s.n or not all([s.is_element(y) for y in value]):
        return False
    return all([s.product((x, y, x)) == x and s.product((y, x, y)) == y for x, y in enumerate(value)])


def _idempotents_commute(s):
    idempotents = s.idempotents()
    return all([s.table[e][f] == s.table[f][e] for e in idempotents for f in idempotents])


def _value(s, word, triple):
    """Return the value of a word for the elements in the place of x, y and z."""
    return s.product([triple["xyz".index(letter)] for letter in word])
