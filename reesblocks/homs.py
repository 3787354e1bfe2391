"""Homomorphisms, isomorphisms, and counting them by congruences (points 6.1 to 6.3)."""

from reesblocks.congruence import congruences
from reesblocks.errors import Malformed
from reesblocks.lattice import all_above, moebius_of
from reesblocks.mapping import Search, all_choices, one_to_one_choices
from reesblocks.whole import by_keys

MOST_HOMOMORPHISMS = 50000


def is_homomorphism(a, b, images):
    """Tell whether the value is the tuple of the images of a homomorphism from a to b."""
    if not isinstance(images, tuple) or len(images) != a.n or not all([b.is_element(x) for x in images]):
        return False
    for x, row in enumerate(a.table):
        other = b.table[images[x]]
        if [images[xy] for xy in row] != [other[y] for y in images]:
            return False
    return True


def homomorphisms(a, b):
    """Return the ascending tuple of all homomorphisms from a to b."""
    search = Search(a, b, False, MOST_HOMOMORPHISMS)
    return tuple(sorted(search.completions(search.begun(all_choices(a, b)))))


def count_homomorphisms(a, b):
    """Return the number of homomorphisms from a to b."""
    return len(homomorphisms(a, b))


def one_to_one(a, b):
    """Return the ascending tuple of the one-to-one homomorphisms from a to b."""
    search = Search(a, b, True, MOST_HOMOMORPHISMS)
    return tuple(sorted(search.completions(search.begun(one_to_one_choices(a, b)))))


def find_isomorphism(a, b):
    """Return the least isomorphism from a to b, or None."""
    if a.n != b.n:
        return None
    search = Search(a, b, True, None)
    state = search.begun(one_to_one_choices(a, b))
    found = search.completions(state)
    if not found:
        return None
    best = found[0]
    for x in range(a.n):
        # Lesser images are tried for one element after the other, behind the least ones of those before it.
        for v in search.values_in(state[0][x]):
            better = search.completions(search.placed(state, x, v)) if v < best[x] else []
            if better:
                best = better[0]
                break
        state = search.placed(state, x, best[x])
    return best


def automorphisms(s):
    """Return the ascending tuple of the automorphisms."""
    return one_to_one(s, s)


def count_by_congruences(a, b):
    """Return the number of one-to-one homomorphisms from a to b, by the Moebius numbers of the congruences of a."""
    found = congruences(a)
    above = all_above(found)
    numbers = _numbers_from_quotients(a, b, found, above)
    return sum([m * h for m, h in zip(moebius_of(above), numbers)])


def unlike_congruence(a, b):
    """Return the first congruence of a whose quotient has unlike numbers of homomorphisms to a and to b, with both.

    Return None if there is none, that is: if a and b are isomorphic.
    """
    if a.n != b.n:
        raise Malformed("the semigroups have unlike sizes")
    found = congruences(a)
    above = all_above(found)
    ours = _numbers_from_quotients(a, a, found, above)
    theirs = _numbers_from_quotients(a, b, found, above)
    for classes, m, k in zip(found, ours, theirs):
        if m != k:
            return classes, m, k
    return None


def _numbers_from_quotients(a, b, found, above):
    """Return for each congruence of a the number of the homomorphisms from its quotient to b."""
    # Those from a quotient are those from a whose kernel is the congruence or above it. So all are among those
    # from a, and none of these numbers is too large if that of a, whose kernels are above the equality, is not.
    many = {}
    for images in homomorphisms(a, b):
        kernel = by_keys(images)
        many[kernel] = many.get(kernel, 0) + 1
    own = [many.get(classes, 0) for classes in found]
    return [own[i] + sum([own[k] for k in above[i]]) for i in range(len(found))]
