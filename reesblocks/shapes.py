"""Telling elements apart by their products: what every isomorphism keeps (for point 6.1)."""

from reesblocks.parts import index_and_period


def shapes(a, b):
    """Return for each element of two semigroups a number, such that an isomorphism keeps the numbers."""
    starts = _numbered([[index_and_period(s, x) for x in range(s.n)] for s in (a, b)])
    numbers = _refined([a, b], starts)
    if sorted(numbers[0]) != sorted(numbers[1]):
        return numbers
    # Singling out one element at a time tells more elements apart than looking at all of them alike.
    parts = [s for s in (a, b) for _ in range(s.n)]
    marked = [_marked(some, x) for some in numbers for x in range(len(some))]
    looks = [tuple(sorted(some)) for some in _refined(parts, marked)]
    return _numbered([
        list(zip(numbers[0], looks[:a.n])),
        list(zip(numbers[1], looks[a.n:])),
    ])


def _marked(numbers, x):
    """Return the numbers with one of their own for x."""
    return [len(numbers) + 1 + number if y == x else number for y, number in enumerate(numbers)]


def _refined(parts, numbers):
    """Return the numbers of the elements of some semigroups, with unlike ones for elements that products tell apart."""
    many = 0
    while True:
        base = 1 + max([number for some in numbers for number in some])
        forms = [_forms(s, some, base) for s, some in zip(parts, numbers)]
        numbers = _numbered(forms)
        found = 1 + max([number for some in numbers for number in some])
        if found == many:
            return numbers
        many = found


def _forms(s, numbers, base):
    """Return for each element its number and those of the other factor and of both products, for all of them."""
    found = []
    for x in range(s.n):
        row = s.table[x]
        triples = [
            (numbers[y] * base + numbers[row[y]]) * base + numbers[s.table[y][x]] for y in range(s.n)
        ]
        found.append((numbers[x], tuple(sorted(triples))))
    return found


def _numbered(rows):
    """Return the rows with equal numbers in the place of equal items, and unlike ones for unlike items."""
    numbers = {}
    for row in rows:
        for item in row:
            numbers.setdefault(item, len(numbers))
    return [[numbers[item] for item in row] for row in rows]
