import unittest
from itertools import permutations, product
from random import Random

from reesblocks.build import (
    brandt, cyclic_group, direct_product, left_zero, monogenic, null_semigroup, opposite, rectangular_band, relabeled,
    right_zero, with_unit, with_zero,
)
from reesblocks.congruence import congruences, quotient
from reesblocks.homs import (
    automorphisms, count_by_congruences, count_homomorphisms, find_isomorphism, homomorphisms, is_homomorphism,
    one_to_one, unlike_congruence,
)
from reesblocks.semigroup import Semigroup
from samples import (
    ALL_MAPS_OF_2, BAND_24, BRANDT_4, CHAIN_24, CYCLIC_24, GROUPS, INVERSE_MONOID_2, LARGER, LEFT_ZERO_24, MALFORMED,
    MONOGENIC_24, NULL_24, ORDERED_MAPS_OF_3, ORDERED_PARTIAL_3, SIXTEEN_TWOS, SMALL, SYMMETRIC_GROUP_4, by_rule, error_of,
    is_number, odd_values,
)

MANY = ("Refused", "many")
ONE = Semigroup([[0]])
CHAIN_3, CHAIN_4 = by_rule(3, min), by_rule(4, min)
MIDDLE = [
    ALL_MAPS_OF_2, brandt(2), monogenic(2, 3), with_unit(left_zero(3)), with_zero(cyclic_group(3)), CHAIN_4,
    rectangular_band(2, 2), null_semigroup(4), cyclic_group(4), direct_product(cyclic_group(2), cyclic_group(2)),
    direct_product(left_zero(2), cyclic_group(2)), with_zero(null_semigroup(3)),
]


def takes_products(a, b, images):
    return all(images[a.table[x][y]] == b.table[images[x]][images[y]] for x in range(a.n) for y in range(a.n))


def maps_by_definition(a, b):
    """All homomorphisms, by looking at all maps."""
    return tuple(images for images in product(range(b.n), repeat=a.n) if takes_products(a, b, images))


def renamed(s, seed):
    """The semigroup with other numbers for its elements, and the isomorphism to it."""
    images = tuple(Random(seed).sample(range(s.n), s.n))
    return relabeled(s, images), images


def layered(many, colour, colours):
    """A semigroup of generators, one product for each colour, and a zero; longer products are all the zero."""
    last = many + colours

    def times(x, y):
        return many + colour(x, y) if x < many and y < many and colour(x, y) is not None else last

    return by_rule(last + 1, times)


def graph(many, edges):
    return layered(many, lambda x, y: 0 if (x, y) in edges or (y, x) in edges else None, 1)


def rings(*lengths, more=0):
    """The semigroup of a graph that consists of rings, and of some points without edges."""
    edges, start = set(), 0
    for length in lengths:
        edges |= {(start + i, start + (i + 1) % length) for i in range(length)}
        start += length
    return graph(start + more, edges)


def complete(many):
    return graph(many, set(product(range(many), repeat=2)) - {(x, x) for x in range(many)})


def two_graphs_of_16():
    """Two graphs that are not isomorphic, although any two points have in both as many common neighbours."""
    points = list(product(range(4), repeat=2))
    rook = {(p, q) for p, q in product(points, repeat=2) if (p[0] == q[0]) != (p[1] == q[1])}
    near = {(0, 1), (0, 3), (1, 0), (3, 0), (1, 1), (3, 3)}
    other = {(p, q) for p, q in product(points, repeat=2) if ((q[0] - p[0]) % 4, (q[1] - p[1]) % 4) in near}
    return [graph(16, {(points.index(p), points.index(q)) for p, q in edges}) for edges in (rook, other)]


class Telling(unittest.TestCase):
    def test_all_maps(self):
        for a in SMALL[::5] + [CHAIN_4, cyclic_group(4)]:
            for b in SMALL[::5] + [CHAIN_4, cyclic_group(4)]:
                for images in product(range(-1, b.n + 1), repeat=a.n):
                    right = -1 not in images and b.n not in images and takes_products(a, b, images)
                    self.assertIs(is_homomorphism(a, b, images), right)

    def test_every_value(self):
        for a, b in ((ONE, ONE), (null_semigroup(2), cyclic_group(2)), (null_semigroup(2), null_semigroup(3)), (NULL_24, NULL_24)):
            for value in odd_values():
                right = isinstance(value, tuple) and len(value) == a.n and all(is_number(x) for x in value)
                right = right and all(0 <= x < b.n for x in value) and takes_products(a, b, value)
                self.assertIs(is_homomorphism(a, b, value), right)

    def test_wrong_values(self):
        s = cyclic_group(2)
        self.assertIs(is_homomorphism(s, s, (0, 1)), True)
        for wrong in ([0, 1], (0, True), (False, 1), (0,), (0, 1, 0), (0, 2), (0, -1), (1, 0), "01", None, (0, None)):
            self.assertIs(is_homomorphism(s, s, wrong), False)
        self.assertIs(is_homomorphism(CYCLIC_24, CYCLIC_24, tuple(5 * x % 24 for x in range(24))), True)
        self.assertIs(is_homomorphism(CYCLIC_24, CYCLIC_24, tuple((5 * x + 1) % 24 for x in range(24))), False)


class Complete(unittest.TestCase):
    def check(self, a, b):
        every = maps_by_definition(a, b)
        single = tuple(images for images in every if len(set(images)) == a.n)
        self.assertEqual(homomorphisms(a, b), every)
        self.assertEqual(count_homomorphisms(a, b), len(every))
        self.assertEqual(one_to_one(a, b), single)
        self.assertEqual(count_by_congruences(a, b), len(single))
        self.assertEqual(find_isomorphism(a, b), single[0] if single and a.n == b.n else None)
        if a == b:
            self.assertEqual(automorphisms(a), single)

    def test_small_ones(self):
        for a, b in product(SMALL, repeat=2):
            if a.n < 3 or b.n < 3 or SMALL.index(a) % 4 == SMALL.index(b) % 4:
                self.check(a, b)

    def test_middle_ones(self):
        for a, b in product(MIDDLE, repeat=2):
            if b.n ** a.n <= 4000:
                self.check(a, b)

    def test_automorphisms(self):
        for s in SMALL + MIDDLE + [layered(4, lambda x, y: (x + y) % 2 if x != y else None, 2), rings(3, more=2)]:
            wanted = tuple(images for images in permutations(range(s.n)) if takes_products(s, s, images))
            self.assertEqual(automorphisms(s), wanted)
            other, images = renamed(s, 4)
            found = one_to_one(s, other)
            self.assertEqual(found, tuple(sorted(tuple(images[y] for y in first) for first in wanted)))
            self.assertEqual(find_isomorphism(s, other), found[0])


class Numbers(unittest.TestCase):
    def test_known_numbers(self):
        told = [
            (CYCLIC_24, CYCLIC_24, 24), (CYCLIC_24, cyclic_group(18), 6), (cyclic_group(5), CYCLIC_24, 1),
            (SYMMETRIC_GROUP_4, SYMMETRIC_GROUP_4, 58), (SYMMETRIC_GROUP_4, cyclic_group(2), 2),
            (NULL_24, CYCLIC_24, 1), (NULL_24, CHAIN_24, 24), (BRANDT_4, BRANDT_4, 24 + 17 - 12),
            (by_rule(6, min), by_rule(7, min), 924), (LEFT_ZERO_24, CHAIN_24, 24), (left_zero(5), left_zero(6), 6 ** 5),
            (rectangular_band(2, 3), rectangular_band(3, 2), 9 * 8), (ONE, BAND_24, 24), (BAND_24, ONE, 1),
            (MONOGENIC_24, cyclic_group(15), 15), (by_rule(2, min), BRANDT_4, 9),
        ]
        for a, b, many in told:
            found = homomorphisms(a, b)
            self.assertEqual(len(found), many)
            self.assertEqual(count_homomorphisms(a, b), many)
            self.assertEqual(list(found), sorted(set(found)))
            self.assertTrue(all(takes_products(a, b, images) for images in found))

    def test_automorphisms_of_groups(self):
        for order, many in ((8, [4, 8, 168, 8, 24]), (12, [4, 12, 12, 24, 12])):
            self.assertEqual([len(automorphisms(Semigroup(group))) for group in GROUPS[order]], many)
        self.assertEqual(len(automorphisms(Semigroup(SIXTEEN_TWOS))), 20160)
        self.assertEqual(len(automorphisms(BAND_24)), 24 * 720)
        self.assertEqual(len(automorphisms(left_zero(8))), 40320)

    def test_many(self):
        for a, b in (
            (NULL_24, NULL_24), (LEFT_ZERO_24, LEFT_ZERO_24), (CHAIN_24, CHAIN_24), (BAND_24, BAND_24),
            (LEFT_ZERO_24, BAND_24), (Semigroup(SIXTEEN_TWOS), Semigroup(SIXTEEN_TWOS)), (complete(12), complete(11)),
            (layered(9, lambda x, y: x if x == y else None, 9), rings(4, 5, more=4)),
        ):
            self.assertEqual(error_of(count_homomorphisms, a, b), MANY)
        self.assertEqual(error_of(homomorphisms, NULL_24, NULL_24), MANY)
        # These are close to the largest number from both sides.
        self.assertEqual(count_homomorphisms(left_zero(6), left_zero(6)), 46656)
        self.assertEqual(error_of(count_homomorphisms, left_zero(4), left_zero(15)), MANY)
        self.assertEqual(count_homomorphisms(left_zero(4), left_zero(14)), 38416)
        self.assertEqual(count_homomorphisms(rectangular_band(5, 4), rectangular_band(5, 2)), 50000)
        # The zero alone is one image more.
        self.assertEqual(error_of(homomorphisms, rectangular_band(5, 4), with_zero(rectangular_band(5, 2))), MANY)

    def test_many_one_to_one(self):
        for a, b in ((NULL_24, NULL_24), (LEFT_ZERO_24, LEFT_ZERO_24), (left_zero(9), left_zero(9))):
            self.assertEqual(error_of(one_to_one, a, b), MANY)
            self.assertEqual(error_of(automorphisms, a), MANY)
        # The one-to-one ones alone count here: there are more than 50000 others.
        self.assertEqual(error_of(homomorphisms, BAND_24, BAND_24), MANY)
        self.assertEqual(len(one_to_one(BAND_24, BAND_24)), 17280)
        self.assertEqual(len(one_to_one(CHAIN_24, CHAIN_24)), 1)
        self.assertEqual(one_to_one(left_zero(9), left_zero(8)), ())

    def test_too_few_images(self):
        # Here one image is missing, and there are far too many ways to use the others.
        self.assertEqual(one_to_one(left_zero(12), rectangular_band(11, 2)), ())
        self.assertEqual(one_to_one(complete(12), complete(11)), ())
        self.assertEqual(one_to_one(left_zero(12), with_zero(left_zero(11))), ())
        self.assertEqual(one_to_one(null_semigroup(20), with_zero(null_semigroup(19))), ())


class Isomorphisms(unittest.TestCase):
    def test_renamed(self):
        for s in LARGER + [Semigroup(SIXTEEN_TWOS), rings(5, 7, more=8), rings(6, 6, 6), complete(20), *two_graphs_of_16()]:
            other, images = renamed(s, s.n)
            found = find_isomorphism(s, other)
            self.assertIsInstance(found, tuple)
            self.assertEqual(sorted(found), list(range(s.n)))
            self.assertTrue(takes_products(s, other, found))
            self.assertLessEqual(found, images)
            self.assertEqual(find_isomorphism(s, s), tuple(range(s.n)))

    def test_least(self):
        for s in (BRANDT_4, SYMMETRIC_GROUP_4, CYCLIC_24, ORDERED_PARTIAL_3, ORDERED_MAPS_OF_3, rings(5, 5), BAND_24):
            other, _ = renamed(s, 8)
            self.assertEqual(find_isomorphism(s, other), one_to_one(s, other)[0])
        # More than 50000 isomorphisms are nothing that find_isomorphism refuses.
        other = relabeled(NULL_24, (7, 5, *range(8, 24), 0, 1, 2, 3, 4, 6))
        self.assertEqual(find_isomorphism(NULL_24, other), (7, 0, 1, 2, 3, 4, 5, 6, *range(8, 24)))
        other, _ = renamed(LEFT_ZERO_24, 1)
        self.assertEqual(find_isomorphism(LEFT_ZERO_24, other), tuple(range(24)))

    def test_none(self):
        pairs = [
            (left_zero(24), right_zero(24)), (CYCLIC_24, SYMMETRIC_GROUP_4), (NULL_24, LEFT_ZERO_24),
            (cyclic_group(4), direct_product(cyclic_group(2), cyclic_group(2))), (ALL_MAPS_OF_2, opposite(ALL_MAPS_OF_2)),
            (rings(6), rings(3, 3)), (rings(8, more=12), rings(4, 4, more=12)), (rings(22), rings(11, 11)),
            (rings(9, 4, more=7), rings(8, 5, more=7)), tuple(two_graphs_of_16()), (complete(12), rings(12)),
            (Semigroup(GROUPS[24][5]), Semigroup(GROUPS[24][7])),
        ]
        for a, b in pairs:
            b, _ = renamed(b, 3)
            self.assertIsNone(find_isomorphism(a, b))
            self.assertEqual(one_to_one(a, b), ())

    def test_unlike_sizes(self):
        self.assertIsNone(find_isomorphism(ONE, CYCLIC_24))
        self.assertIsNone(find_isomorphism(left_zero(3), left_zero(4)))
        self.assertIsNone(find_isomorphism(left_zero(4), left_zero(3)))


class Congruences(unittest.TestCase):
    def numbers(self, a, b):
        return [count_homomorphisms(quotient(a, classes), b) for classes in congruences(a)]

    def test_count(self):
        told = [
            (CYCLIC_24, CYCLIC_24, 8), (SYMMETRIC_GROUP_4, SYMMETRIC_GROUP_4, 24), (BRANDT_4, BRANDT_4, 24),
            (cyclic_group(6), CYCLIC_24, 2), (CHAIN_4, CHAIN_24, 10626), (left_zero(5), left_zero(7), 2520),
            (cyclic_group(4), cyclic_group(6), 0),
        ]
        for a, b, many in told:
            self.assertEqual(count_by_congruences(a, b), many)
            self.assertEqual(len(one_to_one(a, b)), many)

    def test_unlike(self):
        some = SMALL[::3] + [s for s in MIDDLE if s.n < 6]
        for a, b in product(some, repeat=2):
            if a.n != b.n:
                self.assertEqual(error_of(unlike_congruence, a, b), MALFORMED)
                continue
            rows = zip(congruences(a), self.numbers(a, a), self.numbers(a, b))
            wanted = next((row for row in rows if row[1] != row[2]), None)
            self.assertEqual(unlike_congruence(a, b), wanted)
            self.assertIs(wanted is None, find_isomorphism(a, b) is not None)

    def test_examples(self):
        self.assertEqual(unlike_congruence(left_zero(2), right_zero(2)), ((0, 1), 4, 2))
        self.assertEqual(unlike_congruence(cyclic_group(2), left_zero(2)), ((0, 0), 1, 2))
        self.assertIsNone(unlike_congruence(SYMMETRIC_GROUP_4, renamed(SYMMETRIC_GROUP_4, 5)[0]))
        found = unlike_congruence(CYCLIC_24, SYMMETRIC_GROUP_4)
        wanted = [
            (classes, m, k) for classes, m, k in zip(
                congruences(CYCLIC_24), self.numbers(CYCLIC_24, CYCLIC_24), self.numbers(CYCLIC_24, SYMMETRIC_GROUP_4),
            ) if m != k
        ]
        self.assertEqual(found, wanted[0])

    def test_malformed(self):
        self.assertEqual(error_of(unlike_congruence, ONE, CYCLIC_24), MALFORMED)
        self.assertEqual(error_of(unlike_congruence, NULL_24, null_semigroup(23)), MALFORMED)

    def test_many(self):
        # Too many congruences, too many homomorphisms to b, and too many to a.
        self.assertEqual(error_of(count_by_congruences, left_zero(8), ONE), MANY)
        self.assertEqual(error_of(unlike_congruence, NULL_24, CYCLIC_24), MANY)
        self.assertEqual(error_of(count_by_congruences, rectangular_band(4, 4), rectangular_band(4, 4)), MANY)
        self.assertEqual(count_by_congruences(rectangular_band(4, 4), ONE), 0)
        sixteen = Semigroup(SIXTEEN_TWOS)
        self.assertEqual(error_of(unlike_congruence, sixteen, sixteen), MANY)
        # Homomorphisms to a are counted first, although those to b alone would give an answer.
        self.assertEqual(error_of(unlike_congruence, sixteen, cyclic_group(16)), MANY)
        self.assertEqual(count_by_congruences(sixteen, cyclic_group(16)), 0)
        # Those to b, too, are counted before any answer: here they are too many, and those to a are not.
        a, b = layered(6, lambda x, y: 0 if x < y else None, 1), null_semigroup(8)
        self.assertEqual((len(congruences(a)), count_homomorphisms(a, a)), (878, 4055))
        self.assertEqual(error_of(unlike_congruence, a, b), MANY)
