"""Papers of isomorphism, joined elements, kinds of semigroups, inverses and identities (points 8.2 to 8.6)."""

from reesblocks.congruence import chain, generated
from reesblocks.factors import is_null, is_simple, is_zero_simple
from reesblocks.green import is_regular
from reesblocks.homs import find_isomorphism, unlike_congruence
from reesblocks.inverse import inverse_map, is_inverse_semigroup
from reesblocks.parts import ideal
from reesblocks.rees import coordinates
from reesblocks.words import failing


def pair_paper(a, b):
    """Return a paper that tells whether two semigroups are isomorphic."""
    if a.n != b.n:
        return ("sizes",)
    images = find_isomorphism(a, b)
    if images is not None:
        return "isomorphic", images
    classes, m, k = unlike_congruence(a, b)
    return "unlike", classes, m, k


def join_paper(s, pairs, x, y):
    """Return a paper that tells whether the least congruence with the pairs puts x and y together."""
    steps = chain(s, pairs, x, y)
    if steps is not None:
        return "chain", steps
    return "apart", generated(s, pairs)


def rees_paper(s):
    """Return a paper that tells whether a semigroup is simple or 0-simple."""
    if is_simple(s) or is_zero_simple(s):
        data, numbers = coordinates(s)
        return "rees", data.zero, data.group, data.matrix, numbers
    if is_null(s):
        return "null", s.zero()
    return "ideal", _proper_ideal(s)


def inverse_paper(s):
    """Return a paper that tells whether a semigroup is an inverse semigroup."""
    if is_inverse_semigroup(s):
        return "inverse", inverse_map(s)
    for x in range(s.n):
        if not is_regular(s, x):
            return "not", x
    pairs = [(e, f) for e in s.idempotents() for f in s.idempotents() if s.table[e][f] != s.table[f][e]]
    e, f = pairs[0]
    return "apart", e, f


def identity_paper(s, left, right):
    """Return a paper that tells whether the identity of two words holds."""
    values = failing(s, left, right)
    return ("holds",) if values is None else ("fails", values)


def _proper_ideal(s):
    """Return an ideal other than all and the zero alone, of a semigroup neither simple nor 0-simple nor null."""
    # Each such ideal contains the one that one of its elements generates, and for some element that is one, too.
    found = [ideal(s, (x,)) for x in range(s.n)]
    return [subset for subset in found if len(subset) < s.n and subset != (s.zero(),)][0]
