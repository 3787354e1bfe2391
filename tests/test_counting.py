import unittest
from itertools import product
from math import comb
from random import Random

from reesblocks.build import (
    brandt, cyclic_group, direct_product, left_zero, monogenic, null_semigroup, opposite, rectangular_band, relabeled,
    with_unit, with_zero,
)
from reesblocks.counting import homomorphisms_up_to
from reesblocks.errors import Refused
from reesblocks.homs import count_homomorphisms
from reesblocks.rules import few_generators, generators_and_rules
from reesblocks.semigroup import Semigroup
from samples import (
    ALL_MAPS_OF_2, BAND_24, BRANDT_4, CHAIN_24, CYCLIC_24, GROUPS, INVERSE_MONOID_2, LARGER, LEFT_ZERO_24, NULL_24,
    ORDERED_MAPS_OF_3, ORDERED_PARTIAL_3, SIXTEEN_TWOS, SMALL, by_rule, value_of,
)
from test_homs import complete, layered, maps_by_definition, rings

HUGE = 10 ** 60
MIDDLE = [
    ALL_MAPS_OF_2, brandt(2), monogenic(2, 3), with_unit(left_zero(3)), with_zero(cyclic_group(3)), by_rule(5, min),
    rectangular_band(2, 3), null_semigroup(5), direct_product(left_zero(2), cyclic_group(3)),
    with_zero(null_semigroup(4)),
    direct_product(left_zero(3), null_semigroup(3)), direct_product(rectangular_band(2, 2), by_rule(3, min)),
    layered(4, lambda x, y: (x + y) % 3 if x != y else None, 3), layered(5, lambda x, y: x * y % 4, 4), rings(4, more=2),
    ORDERED_MAPS_OF_3, ORDERED_PARTIAL_3, INVERSE_MONOID_2, Semigroup(SIXTEEN_TWOS), *[Semigroup(g) for g in GROUPS[12]],
]


class Small(unittest.TestCase):
    def test_all_maps(self):
        for a, b in product(SMALL, repeat=2):
            if a.n < 3 or b.n < 3 or SMALL.index(a) % 5 == SMALL.index(b) % 5:
                self.assertEqual(homomorphisms_up_to(a, b, HUGE), len(maps_by_definition(a, b)))

    def test_up_to(self):
        for a, b in product(SMALL[::11] + MIDDLE[:8], repeat=2):
            many = count_homomorphisms(a, b)
            for most in (0, 1, 2, many - 1, many, many + 1, 100, HUGE):
                self.assertEqual(homomorphisms_up_to(a, b, most), min(many, most + 1))


class Middle(unittest.TestCase):
    def test_counted_otherwise(self):
        for a, b in product(MIDDLE + LARGER, MIDDLE[::3] + LARGER[::2]):
            try:
                many = count_homomorphisms(a, b)
            except Refused:
                # More than this are not counted by the other way.
                self.assertEqual(homomorphisms_up_to(a, b, 50000), 50001)
            else:
                self.assertEqual(homomorphisms_up_to(a, b, HUGE), many)

    def test_random_ones(self):
        source = Random(5)
        for _ in range(150):
            a, b = self.random_one(source), self.random_one(source)
            try:
                many = count_homomorphisms(a, b)
            except Refused:
                continue
            self.assertEqual(homomorphisms_up_to(a, b, HUGE), many)

    def random_one(self, source):
        """Generators whose products are some elements more, or a zero; few values make many elements alike."""
        many, colours, free = source.randrange(2, 7), source.randrange(1, 4), source.random()
        table = [[source.randrange(colours) if source.random() < free else None for _ in range(many)] for _ in range(many)]
        s = layered(many, lambda x, y: table[x][y], colours)
        kind = source.randrange(6)
        if kind < 2 and s.n < 9:
            return direct_product(s, (left_zero(2), by_rule(2, min))[kind])
        return [with_unit, with_zero, opposite, lambda some: some][kind - 2](s) if kind > 1 else s

    def test_renamed(self):
        for s in MIDDLE:
            images = tuple(range(s.n))
            other = relabeled(s, images[s.n // 2:] + images[:s.n // 2])
            for target in (s, CHAIN_24, rings(5, 4)):
                self.assertEqual(homomorphisms_up_to(other, target, HUGE), homomorphisms_up_to(s, target, HUGE))
                self.assertEqual(homomorphisms_up_to(target, other, HUGE), homomorphisms_up_to(target, s, HUGE))


class Huge(unittest.TestCase):
    def colourings(self, many, colours):
        """Maps of a complete graph's points to one that take unlike points to unlike ones, and some to none."""
        return sum(comb(many, k) * comb(colours, k) * self.orders(k) for k in range(many + 1))

    def orders(self, k):
        return 1 if k == 0 else k * self.orders(k - 1)

    def test_known_numbers(self):
        wide = direct_product(left_zero(6), null_semigroup(4))
        told = [
            (LEFT_ZERO_24, LEFT_ZERO_24, 24 ** 24), (NULL_24, NULL_24, 24 ** 23), (BAND_24, BAND_24, 4 ** 4 * 6 ** 6),
            (LEFT_ZERO_24, BAND_24, 4 * 6 ** 24), (CHAIN_24, CHAIN_24, comb(47, 24)),
            (CHAIN_24, by_rule(10, min), comb(33, 9)), (NULL_24, null_semigroup(2), 2 ** 23),
            (CYCLIC_24, CYCLIC_24, 24),
            (Semigroup(SIXTEEN_TWOS), Semigroup(SIXTEEN_TWOS), 2 ** 16),
            (wide, wide, 6 ** 6 * 4 ** 18),
            (rectangular_band(2, 12), rectangular_band(2, 12), 4 * 12 ** 12), (BRANDT_4, BRANDT_4, 24 + 17 - 12),
        ]
        for a, b, many in told:
            self.assertEqual(homomorphisms_up_to(a, b, HUGE), many)
            self.assertEqual(homomorphisms_up_to(a, b, many), many)
            self.assertEqual(homomorphisms_up_to(a, b, many - 1), many)
            self.assertEqual(homomorphisms_up_to(a, b, 7), min(many, 8))

    def test_flat_semilattices(self):
        # Points above a zero, without other products: the points above the image of the zero are told apart.
        flat = by_rule(24, lambda x, y: x if x == y else 0)
        # The zero goes to the zero and points to unlike points or the zero, or all go to one point that is no zero.
        self.assertEqual(homomorphisms_up_to(flat, flat, HUGE), self.colourings(23, 23) + 23)

    def test_graphs(self):
        # A point is joined to each other one: their product is one element, and the squares are the zero. If that
        # element goes to the zero, all points that go to points go to one; otherwise they go to unlike points.
        many = sum(comb(12, k) * 2 ** (12 - k) for k in range(1, 13))
        self.assertEqual(homomorphisms_up_to(complete(12), complete(11), HUGE), 2 ** 12 + 11 * many)
        same = self.orders(12) + 2 ** 12 + 12 * many
        self.assertEqual(homomorphisms_up_to(complete(12), complete(12), HUGE), same)


class Rules(unittest.TestCase):
    def test_generators(self):
        told = [(CYCLIC_24, 1), (CHAIN_24, 24), (NULL_24, 23), (BAND_24, 6), (Semigroup(SIXTEEN_TWOS), 4)]
        for s, many in told:
            self.assertEqual(len(few_generators(s)), many)

    def test_rules_hold(self):
        for s in SMALL + MIDDLE + LARGER:
            generators, rules = generators_and_rules(s)
            self.assertEqual(len(set(generators)), len(generators))
            for left, right in rules:
                self.assertNotEqual(left, right)
                self.assertEqual(value_of(s, generators, left), value_of(s, generators, right))
