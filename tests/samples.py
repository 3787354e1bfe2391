"""Semigroups and values for the tests, made without the functions under test, and the definitions worked out."""

from itertools import product

from reesblocks.errors import Fault, Malformed, NoText, Refused
from reesblocks.semigroup import Semigroup


def is_associative(table):
    n = len(table)
    return all(table[table[x][y]][z] == table[x][table[y][z]] for x, y, z in product(range(n), repeat=3))


def all_tables(n):
    for cells in product(range(n), repeat=n * n):
        yield tuple(cells[n * k:n * k + n] for k in range(n))


def by_rule(n, rule):
    return Semigroup([[rule(x, y) for y in range(n)] for x in range(n)])


def then(f, g):
    """The map that does f first, then g, worked out point by point."""
    images = []
    for point in f:
        images.append(-1 if point == -1 else g[point])
    return tuple(images)


def closure(maps):
    """All products of the maps, found by multiplying until nothing new comes."""
    known = set(maps)
    while True:
        more = known | {then(f, g) for f in known for g in known}
        if more == known:
            return sorted(known)
        known = more


def from_maps(maps):
    found = closure(maps)
    return Semigroup([[found.index(then(f, g)) for g in found] for f in found])


SMALL = [Semigroup(table) for n in (1, 2, 3) for table in all_tables(n) if is_associative(table)]

SYMMETRIC_GROUP_4 = from_maps([(1, 2, 3, 0), (1, 0, 2, 3)])
ALL_MAPS_OF_2 = from_maps([(1, 0), (0, 0)])
INVERSE_MONOID_2 = from_maps([(1, 0), (0, -1)])
ORDERED_MAPS_OF_3 = from_maps([(0, 0, 2), (0, 1, 1), (0, 2, 2), (1, 1, 2)])
ORDERED_PARTIAL_3 = from_maps([(-1, 0, 1), (1, 2, -1), (0, 2, -1), (0, -1, 1), (1, -1, 2), (-1, 0, 2)])
CHAIN_24 = by_rule(24, min)
CYCLIC_24 = by_rule(24, lambda x, y: (x + y) % 24)
NULL_24 = by_rule(24, lambda x, y: 0)
LEFT_ZERO_24 = by_rule(24, lambda x, y: x)
BAND_24 = by_rule(24, lambda x, y: x // 4 * 4 + y % 4)
MONOGENIC_24 = by_rule(24, lambda x, y: x + y + 1 if x + y + 1 < 24 else 9 + (x + y + 1 - 9) % 15)
BRANDT_4 = by_rule(17, lambda x, y: 16 if 16 in (x, y) or x % 4 != y // 4 else x // 4 * 4 + y % 4)
GROUP_WITH_ZERO = by_rule(5, lambda x, y: 4 if 4 in (x, y) else (x + y) % 4)

LARGER = [
    SYMMETRIC_GROUP_4, ALL_MAPS_OF_2, INVERSE_MONOID_2, ORDERED_MAPS_OF_3, ORDERED_PARTIAL_3, CHAIN_24, CYCLIC_24,
    NULL_24, LEFT_ZERO_24, BAND_24, MONOGENIC_24, BRANDT_4, GROUP_WITH_ZERO,
]

SAMPLES = SMALL + LARGER


def deep(many, kind):
    """A list or tuple nested so deep that no function may walk down into it."""
    value = kind()
    for _ in range(many):
        value = kind([value])
    return value


def odd_values():
    """Values of every kind that point 0.3 names; most of them have no form at all."""
    loop = []
    loop.append(loop)
    return [
        0, 1, 2, -1, -2, 24, 25, 10 ** 5000, -10 ** 5000, True, False, None,
        "", "0", "1", "(0,)", "1: 0", "x" * 10000, "\u00b2: 0", "\ud800",
        [], (), [0], (0,), [True], (True,), (False,), [False], [None], (None,), ["0"], ("0",), [-1], (-1,),
        [[]], ((),), [[0]], ((0,),), ([0],), [(0,)], [[True]], ((False,),), [[None]], [[-1]], [["0"]], [[1]], [[[0]]],
        [0, 0], (0, 0), (0, 1), (1, 0), (0, True), (False, 1), (0, 0, 0), (0, 1, 2), (2, 1, 0), (0, 10 ** 5000),
        (0, None), (0, (0,)), ((0, 0), (0, 0)), [(0, 0), (0, 0)], ((0, 1), (1, 0)), ((0, 0), (0,)), ((0, 1),),
        [[0, 0], [0, True]], [[0, 1], [False, 0]], loop, deep(100000, list), deep(100000, tuple),
        Semigroup([[0]]), Semigroup([[0, 0], [0, 1]]), [Semigroup([[0]])], (Semigroup([[0]]),),
        Fault(), Malformed("x"), Refused("large"), NoText(0), [Refused("large")],
    ]


def error_of(function, *arguments):
    """The error that the call raises, as a name and what it holds; None if it raises none."""
    try:
        function(*arguments)
    except Refused as fault:
        return "Refused", fault.reason
    except NoText as fault:
        return "NoText", fault.at
    except Malformed:
        return ("Malformed",)
    return None


MALFORMED = ("Malformed",)
LARGE = ("Refused", "large")
NO_TEXT = ("NoText", 0)


def is_number(value):
    return isinstance(value, int) and value is not True and value is not False


def words_up_to(many, longest):
    """All words of indexes below `many`, shorter ones first, those of one length in ascending order."""
    for length in range(1, longest + 1):
        yield from product(range(many), repeat=length)


def value_of(s, items, word):
    value = items[word[0]]
    for index in word[1:]:
        value = s.table[value][items[index]]
    return value


def subsets(n):
    """All subsets of the numbers below n, also the empty one, as ascending tuples."""
    for bits in range(2 ** n):
        yield tuple(x for x in range(n) if bits >> x & 1)


def equivalences(n):
    """The tuples of all equivalences of n numbers, from all ways to colour the numbers."""
    found = set()
    for colours in product(range(n), repeat=n):
        found.add(tuple(min(y for y in range(n) if colours[y] == colours[x]) for x in range(n)))
    return sorted(found)


def group_from(generators):
    """The table of the group of all products of some permutations, with the unit as 0."""
    found = closure(generators)
    return tuple(tuple(found.index(then(f, g)) for g in found) for f in found)


def times(one, two):
    """The table of the direct product of two groups."""
    k = len(two)
    return tuple(
        tuple(one[x // k][y // k] * k + two[x % k][y % k] for y in range(len(one) * k)) for x in range(len(one) * k)
    )


def cyclic(n):
    return tuple(tuple((x + y) % n for y in range(n)) for x in range(n))


def twisted(n, m, k):
    """The pairs (i, j) modulo n and m with (i, j) (r, s) = (i + k^j r, j + s); k^m is 1 modulo n."""
    pairs = [(i, j) for i in range(n) for j in range(m)]
    return tuple(
        tuple(pairs.index(((i + k ** j * r) % n, (j + s) % m)) for r, s in pairs) for i, j in pairs
    )


def renamed(group, images):
    """The table in which the element x is called images[x]; the unit 0 must keep its name."""
    n = len(group)
    origin = [images.index(x) for x in range(n)]
    return tuple(tuple(images[group[origin[x]][origin[y]]] for y in range(n)) for x in range(n))


QUATERNIONS = group_from([(1, 2, 3, 0, 5, 6, 7, 4), (4, 7, 6, 5, 2, 1, 0, 3)])
FOUR_GROUP = times(cyclic(2), cyclic(2))
EIGHT_TWOS = times(FOUR_GROUP, cyclic(2))
SIXTEEN_TWOS = times(FOUR_GROUP, FOUR_GROUP)
SYMMETRIC_3 = twisted(3, 2, 2)
EVEN_4 = group_from([(1, 2, 0, 3), (0, 2, 3, 1)])

# One group of each class of isomorphic groups of these orders, without three classes of the order 24.
GROUPS = {
    1: [cyclic(1)], 2: [cyclic(2)], 3: [cyclic(3)], 5: [cyclic(5)], 7: [cyclic(7)],
    4: [cyclic(4), FOUR_GROUP],
    6: [cyclic(6), SYMMETRIC_3],
    8: [cyclic(8), times(cyclic(4), cyclic(2)), EIGHT_TWOS, twisted(4, 2, 3), QUATERNIONS],
    12: [cyclic(12), times(FOUR_GROUP, cyclic(3)), twisted(6, 2, 5), EVEN_4, twisted(3, 4, 2)],
    24: [
        cyclic(24), times(cyclic(2), cyclic(12)), times(FOUR_GROUP, cyclic(6)), group_from([(1, 2, 3, 0), (1, 0, 2, 3)]),
        times(EVEN_4, cyclic(2)), twisted(12, 2, 11), twisted(12, 2, 5), twisted(12, 2, 7), twisted(3, 8, 2),
        twisted(6, 4, 5), times(FOUR_GROUP, SYMMETRIC_3), times(QUATERNIONS, cyclic(3)),
    ],
}


WORDS = [
    "x", "y", "z", "xx", "xy", "yx", "xyx", "xyz", "zyx", "xxyy", "zzz", "xyzxyzxyzxyz", "zyxzyxzyxzyx", "xxxxxxxxxxxx",
]
KINDS = ["isomorphic", "unlike", "sizes", "chain", "apart", "rees", "ideal", "null", "inverse", "not", "holds", "fails"]


def changed(value):
    """The values that come by changing, leaving out, doubling or exchanging one place of a paper, at any depth."""
    if isinstance(value, bool):
        yield from (not value, int(value), None, "true", (value,))
    elif isinstance(value, int):
        yield from (value + 1, value - 1, 0, 1, 2, -1, -2, 24, 10 ** 5000, True, False, None)
        yield from (str(value), (value,), [value], ())
    elif isinstance(value, (tuple, list)):
        items, kind = list(value), type(value)
        yield from (list(value), tuple(value), kind(items + [0]), kind([kind(items)]), None, 0, "", "x", (), [])
        for k, item in enumerate(items):
            yield kind(items[:k] + items[k + 1:])
            yield kind(items[:k + 1] + items[k:])
            for i in range(k):
                other = list(items)
                other[i], other[k] = item, items[i]
                yield kind(other)
            for other in changed(item):
                yield kind(items[:k] + [other] + items[k + 1:])
    else:
        yield from KINDS
        yield from ("", value + "s", value[:-1], value.upper(), 0, 1, True, None, (value,), [value])


def plain(value):
    """The value with lists as tuples."""
    return tuple(plain(item) for item in value) if isinstance(value, (tuple, list)) else value
