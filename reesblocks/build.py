"""Named semigroups, and new semigroups made of given ones (point 2.1)."""

from reesblocks.errors import Malformed, Refused
from reesblocks.semigroup import Semigroup, refuse_large
from reesblocks.whole import is_integer, is_pair_list


def null_semigroup(n):
    """Return the semigroup of n elements whose products are all 0."""
    _need_sizes((n,))
    return _by_rule(n, lambda x, y: 0)


def left_zero(n):
    """Return the semigroup of n elements with x y = x."""
    _need_sizes((n,))
    return _by_rule(n, lambda x, y: x)


def right_zero(n):
    """Return the semigroup of n elements with x y = y."""
    _need_sizes((n,))
    return _by_rule(n, lambda x, y: y)


def cyclic_group(n):
    """Return the group of the sums modulo n."""
    _need_sizes((n,))
    return _by_rule(n, lambda x, y: (x + y) % n)


def rectangular_band(m, k):
    """Return the semigroup of the pairs (i, j), with the number i k + j, and (i, j) (r, s) = (i, s)."""
    _need_sizes((m, k))
    return _by_rule(m * k, lambda x, y: x // k * k + y % k)


def monogenic(index, period):
    """Return the semigroup of the powers of one element with this index and period; x^(k + 1) has the number k."""
    _need_sizes((index, period))
    n = index + period - 1

    def times(x, y):
        # The power behind the last one, number n, is the one of the exponent `index`, number index - 1.
        place = x + y + 1
        return place if place < n else index - 1 + (place - n) % period

    return _by_rule(n, times)


def brandt(m):
    """Return the Brandt semigroup: the pairs (i, j), with the number i m + j, and a zero as the last one."""
    _need_sizes((m,))
    last = m * m

    def times(x, y):
        if x == last or y == last or x % m != y // m:
            return last
        return x // m * m + y % m

    return _by_rule(last + 1, times)


def semilattice(n, pairs):
    """Return the semigroup of the meets in the least order in which x is below y for each pair (x, y)."""
    _need_sizes((n,))
    refuse_large(n)
    if not is_pair_list(pairs, n):
        raise Malformed("the pairs are no list or tuple of pairs of numbers below n")
    below = _closure(n, pairs)
    if any([below[x][x] for x in range(n)]):
        raise Refused("cycle")
    at_most = [[x == y or below[x][y] for y in range(n)] for x in range(n)]
    table = [[_greatest_lower(at_most, x, y) for y in range(n)] for x in range(n)]
    if any([-1 in row for row in table]):
        raise Refused("meet")
    return Semigroup(table)


def direct_product(a, b):
    """Return the semigroup of the pairs (x, y), with the number x k + y for k elements of b."""
    k = b.n
    return _by_rule(a.n * k, lambda x, y: a.table[x // k][y // k] * k + b.table[x % k][y % k])


def opposite(s):
    """Return the semigroup in which the product of x and y is y x."""
    return _by_rule(s.n, lambda x, y: s.table[y][x])


def with_zero(s):
    """Return the semigroup with one more element, the last one, whose products are all itself."""
    last = s.n
    return _by_rule(last + 1, lambda x, y: last if last in (x, y) else s.table[x][y])


def with_unit(s):
    """Return the semigroup with one more element, the last one, whose products are all the other factor."""
    last = s.n

    def times(x, y):
        if x == last:
            return y
        return x if y == last else s.table[x][y]

    return _by_rule(last + 1, times)


def relabeled(s, images):
    """Return the semigroup in which the element x is called images[x]."""
    if not isinstance(images, tuple) or not all([s.is_element(x) for x in images]):
        raise Malformed("the images are no tuple of numbers below n")
    if sorted(images) != list(range(s.n)):
        raise Malformed("the images do not have each element once")
    origins = [images.index(x) for x in range(s.n)]
    return _by_rule(s.n, lambda x, y: images[s.table[origins[x]][origins[y]]])


def _by_rule(n, times):
    """Return the semigroup of n elements in which times(x, y) is the product of x and y."""
    # The number may be far too large for making a table first.
    refuse_large(n)
    return Semigroup([[times(x, y) for y in range(n)] for x in range(n)])


def _need_sizes(sizes):
    for size in sizes:
        if not is_integer(size) or size < 1:
            raise Malformed("a size is no integer from 1 on")


def _closure(n, pairs):
    """Return the rows of True and False that tell which numbers below n are below which ones."""
    rows = [[False] * n for _ in range(n)]
    for x, y in pairs:
        rows[x][y] = True
    for between in range(n):
        for x in range(n):
            if rows[x][between]:
                rows[x] = [rows[x][y] or rows[between][y] for y in range(n)]
    return rows


def _greatest_lower(at_most, x, y):
    """Return the greatest number that is at most both x and y, or -1 if there is none."""
    lower = [z for z in range(len(at_most)) if at_most[z][x] and at_most[z][y]]
    for greatest in lower:
        if all([at_most[z][greatest] for z in lower]):
            return greatest
    return -1
