"""The least of all equivalent matrices over a group (points 4.4 and 4.5)."""

NONE = -1


def turned(matrix):
    """Return the tuple of the columns of a matrix."""
    return tuple(list(zip(*matrix)))


def least_matrix(matrix, group, maps):
    """Return the least matrix over the group that is equivalent to a regular one, and how it comes from that.

    The maps are all isomorphisms onto the group from the one of the given matrix. Behind the matrix the used one
    of them is returned, and for the rows and for the columns a list of the places to which they go and of the
    elements of the group with which they are multiplied there.
    """
    # The shorter lines are gone through in all orders, and the others are sorted: that makes few cases.
    wide = len(matrix) <= len(matrix[0])
    lines = turned(matrix) if wide else matrix
    # The columns have their factor behind, the rows in front: that is behind in the opposite group.
    table = group if wide else turned(group)
    best = None
    for images in maps:
        moved = [[NONE if p == NONE else images[p] for p in line] for line in lines]
        for order in _orders(len(lines[0])):
            for factors in _factors(len(order), len(group)):
                ended = [_least_line(table, line, order, factors) for line in moved]
                ranked = sorted([(line, last, at) for at, (line, last) in enumerate(ended)])
                found = tuple([line for line, _, _ in ranked])
                found = turned(found) if wide else found
                if best is None or found < best[0]:
                    best = (found, images, order, factors, ranked)
    found, images, order, factors, ranked = best
    short = _by_lines(list(zip(order, factors)))
    long = _by_lines([(at, last) for _, last, at in ranked])
    return (found, images, short, long) if wide else (found, images, long, short)


def _least_line(table, line, order, factors):
    """Return the least line with its items in this order, these factors in front and one behind, and that one."""
    ahead = [NONE if line[k] == NONE else table[factor][line[k]] for k, factor in zip(order, factors)]
    # The least line has the unit where its first element stands, so the factor behind is the inverse of that.
    last = table[[p for p in ahead if p != NONE][0]].index(0)
    return tuple([NONE if p == NONE else table[p][last] for p in ahead]), last


def _by_lines(placed):
    """Return at each line's number its place in the list of pairs of lines and factors, and its factor."""
    found = [None] * len(placed)
    for place, (line, factor) in enumerate(placed):
        found[line] = (place, factor)
    return found


def _orders(many):
    """Return all orders of the numbers below `many`."""
    found = [()]
    for _ in range(many):
        found = [(*order, k) for order in found for k in range(many) if k not in order]
    return found


def _factors(many, order):
    """Return all rows of `many` elements of a group of this order that begin with the unit."""
    # A factor that all have in common makes no other matrices: it belongs to an isomorphism within the group.
    found = [(0,)]
    for _ in range(many - 1):
        found = [(*factors, g) for factors in found for g in range(order)]
    return found
