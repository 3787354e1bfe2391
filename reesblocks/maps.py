"""Transformations and partial one-to-one maps: their semigroups and their resets (points 2.2 to 2.5)."""

from reesblocks.errors import Malformed
from reesblocks.search import words_in_order
from reesblocks.semigroup import Semigroup, refuse_large
from reesblocks.whole import is_below

MOST_POINTS = 8


def is_transformation(value):
    """Tell whether the value is a transformation of 1 to 8 points."""
    return _has_points(value) and all([is_below(point, len(value)) for point in value])


def is_partial(value):
    """Tell whether the value is a partial one-to-one map of 1 to 8 points."""
    if not _has_points(value):
        return False
    images = [point for point in value if point != -1]
    return all([is_below(point, len(value)) for point in images]) and len(set(images)) == len(images)


def composed(f, g):
    """Return the map that does f first, then g; both have equally many points."""
    return tuple([-1 if point == -1 else g[point] for point in f])


def generated_maps(maps):
    """Return the semigroup that the maps generate, the maps of its elements, and their least words."""
    _need_maps(maps)
    found = []
    words = []
    everywhere = tuple(range(len(maps[0])))
    for f, word in words_in_order(everywhere, len(maps), lambda g, index: composed(g, maps[index])):
        found.append(f)
        words.append(word)
        # More maps than a semigroup may have could be very many, so the search ends with the first one too many.
        refuse_large(len(found))
    numbers = {f: number for number, f in enumerate(found)}
    table = [[numbers[composed(f, g)] for g in found] for f in found]
    return Semigroup(table), tuple(found), tuple(words)


def right_regular(s):
    """Return the transformations of the elements: x takes each s to s x, and one point more, if needed, to x."""
    rows = list(s.table)
    if s.unit() is None:
        # The last point stands for a unit that is added, so it goes to x.
        rows.append(tuple(range(s.n)))
    return tuple([tuple([row[x] for row in rows]) for x in range(s.n)])


def is_synchronizing(maps):
    """Tell whether the product of some word of the transformations takes all points to one."""
    return reset_word(maps) is not None


def reset_word(maps):
    """Return the least word whose product takes all points to one, or None."""
    _need_transformations(maps)
    return _word_to_one(maps, tuple(range(len(maps[0]))))


def merging_word(maps, i, j):
    """Return the least word that takes the unlike points i and j to one point, or None."""
    _need_transformations(maps)
    many = len(maps[0])
    if not is_below(i, many) or not is_below(j, many) or i == j:
        raise Malformed("these are no two unlike points")
    return _word_to_one(maps, (i, j))


def _word_to_one(maps, points):
    """Return the least word that takes all the points to one, or None."""
    for part, word in words_in_order(points, len(maps), lambda some, index: _images(some, maps[index])):
        if len(part) == 1:
            return word
    return None


def _images(points, f):
    """Return the ascending tuple of the images of some points."""
    return tuple(sorted({f[point] for point in points}))


def _has_points(value):
    """Tell whether the value is a tuple of as many items as a map may have."""
    return isinstance(value, tuple) and 1 <= len(value) <= MOST_POINTS


def _need_maps(maps):
    if not isinstance(maps, (list, tuple)) or len(maps) == 0:
        raise Malformed("the maps are no list or tuple of one or more maps")
    if not all([is_transformation(f) for f in maps]) and not all([is_partial(f) for f in maps]):
        raise Malformed("the maps are neither all transformations nor all partial maps")
    if not all([len(f) == len(maps[0]) for f in maps]):
        raise Malformed("the maps have unlike numbers of points")


def _need_transformations(maps):
    _need_maps(maps)
    if not all([is_transformation(f) for f in maps]):
        raise Malformed("one of the maps is no transformation")
