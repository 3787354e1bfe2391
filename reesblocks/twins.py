"""Elements of a semigroup that nothing tells apart: what both ways of counting homomorphisms make use of."""


def twins(s):
    """Return the equivalence of the elements that can change places without changing any product."""
    found = []
    for x in range(s.n):
        alike = [y for y in range(x) if found[y] == y and _can_change(s, x, y)]
        found.append(alike[0] if alike else x)
    return tuple(found)


def _can_change(s, x, y):
    """Tell whether exchanging x and y is an automorphism."""
    images = list(range(s.n))
    images[x], images[y] = y, x
    for p, row in enumerate(s.table):
        other = s.table[images[p]]
        if [images[pq] for pq in row] != [other[image] for image in images]:
            return False
    return True
