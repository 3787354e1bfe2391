import unittest

from reesblocks.build import (
    cyclic_group, direct_product, left_zero, monogenic, null_semigroup, rectangular_band, with_unit, with_zero,
)
from reesblocks.congruence import congruences
from reesblocks.lattice import atoms, covers, moebius_numbers, monolith
from reesblocks.semigroup import Semigroup
from samples import (
    ALL_MAPS_OF_2, BRANDT_4, CHAIN_24, CYCLIC_24, INVERSE_MONOID_2, LEFT_ZERO_24, MONOGENIC_24, NULL_24,
    ORDERED_MAPS_OF_3, SIXTEEN_TWOS, SMALL, SYMMETRIC_GROUP_4, by_rule, error_of, is_number,
)

MANY = ("Refused", "many")
LATTICES = SMALL + [
    ALL_MAPS_OF_2, BRANDT_4, INVERSE_MONOID_2, ORDERED_MAPS_OF_3, SYMMETRIC_GROUP_4, CYCLIC_24, MONOGENIC_24,
    Semigroup(SIXTEEN_TWOS), rectangular_band(2, 3), left_zero(5), null_semigroup(4), monogenic(4, 6), by_rule(7, min),
    with_unit(left_zero(3)), with_zero(cyclic_group(6)), direct_product(cyclic_group(4), cyclic_group(2)),
]


def below(one, two):
    every = range(len(one))
    return one != two and all(two[x] == two[y] for x in every for y in every if one[x] == one[y])


def order_of(s):
    """The congruences, and the pairs of places of one that is below another one."""
    found = congruences(s)
    places = range(len(found))
    return found, {(i, k) for i in places for k in places if below(found[i], found[k])}


class Lattices(unittest.TestCase):
    def test_definitions(self):
        for s in LATTICES:
            found, order = order_of(s)
            places = range(len(found))
            wanted = sorted(
                (i, k) for i, k in order if not any((i, j) in order and (j, k) in order for j in places)
            )
            self.assertEqual(covers(s), tuple(wanted))
            bottom = found.index(tuple(range(s.n)))
            over = [found[k] for i, k in wanted if i == bottom]
            self.assertEqual(atoms(s), tuple(sorted(over)))
            self.assertEqual(monolith(s), over[0] if len(over) == 1 else None)
            numbers = moebius_numbers(s)
            self.assertEqual(len(numbers), len(found))
            self.assertTrue(all(is_number(number) for number in numbers))
            self.assertEqual(numbers[bottom], 1)
            for k in places:
                if k != bottom:
                    self.assertEqual(numbers[k] + sum(numbers[i] for i in places if (i, k) in order), 0)

    def test_examples(self):
        self.assertEqual(covers(left_zero(3)), ((1, 0), (2, 0), (3, 0), (4, 1), (4, 2), (4, 3)))
        self.assertEqual(atoms(left_zero(3)), ((0, 0, 2), (0, 1, 0), (0, 1, 1)))
        self.assertIsNone(monolith(left_zero(3)))
        self.assertEqual(moebius_numbers(left_zero(3)), (2, -1, -1, -1, 1))
        self.assertEqual(moebius_numbers(cyclic_group(4)), (0, -1, 1))
        self.assertEqual(covers(cyclic_group(4)), ((1, 0), (2, 1)))

    def test_one_element(self):
        s = Semigroup([[0]])
        self.assertEqual((covers(s), atoms(s), monolith(s), moebius_numbers(s)), ((), (), None, (1,)))

    def test_monoliths(self):
        # Exactly one atom, below all but the least one; it may be the greatest one.
        self.assertEqual(monolith(cyclic_group(2)), (0, 0))
        self.assertEqual(monolith(cyclic_group(8)), (0, 1, 2, 3, 0, 1, 2, 3))
        self.assertEqual(monolith(BRANDT_4), (0,) * 17)
        self.assertEqual(len(set(monolith(SYMMETRIC_GROUP_4))), 6)
        for s in (cyclic_group(6), CYCLIC_24, by_rule(3, min), null_semigroup(3), rectangular_band(2, 2)):
            self.assertIsNone(monolith(s))
            self.assertGreater(len(atoms(s)), 1)
        for s in LATTICES:
            found = monolith(s)
            if found is not None:
                others = [classes for classes in congruences(s) if classes not in (found, tuple(range(s.n)))]
                self.assertTrue(all(below(found, classes) for classes in others))

    def test_large_lattices(self):
        self.assertEqual(moebius_numbers(left_zero(7))[0], 720)
        self.assertEqual(len(atoms(null_semigroup(7))), 21)
        self.assertEqual(moebius_numbers(by_rule(10, min))[0], -1)
        self.assertEqual(len(covers(by_rule(10, min))), 9 * 2 ** 8)
        self.assertEqual(len(atoms(rectangular_band(4, 5))), 16)
        self.assertEqual(moebius_numbers(rectangular_band(4, 5))[0], -6 * 24)

    def test_many(self):
        for s in (left_zero(8), null_semigroup(8), by_rule(11, min), LEFT_ZERO_24, NULL_24, CHAIN_24):
            for function in (covers, atoms, monolith, moebius_numbers):
                self.assertEqual(error_of(function, s), MANY)
