import unittest
from itertools import product

from reesblocks.build import (
    brandt, cyclic_group, direct_product, left_zero, monogenic, null_semigroup, rectangular_band, with_unit, with_zero,
)
from reesblocks.congruence import congruences, quotient
from reesblocks.inverse import (
    group_congruence, inverse_map, inverses_of, is_inverse_semigroup, natural_at_most, representation,
)
from reesblocks.semigroup import Semigroup
from samples import (
    ALL_MAPS_OF_2, BAND_24, BRANDT_4, CHAIN_24, CYCLIC_24, GROUPS, INVERSE_MONOID_2, LEFT_ZERO_24, MALFORMED, NULL_24,
    ORDERED_PARTIAL_3, SAMPLES, SYMMETRIC_GROUP_4, by_rule, error_of, from_maps, is_number, odd_values, then,
)

INVERSE = ("Refused", "inverse")
MIDDLE = [
    brandt(1), brandt(2), brandt(3), with_unit(brandt(2)), with_zero(cyclic_group(6)), with_unit(cyclic_group(4)),
    direct_product(cyclic_group(3), by_rule(4, min)), direct_product(brandt(2), cyclic_group(2)),
    from_maps([(1, 0, -1), (0, -1, -1)]), rectangular_band(2, 3), monogenic(2, 3), with_zero(left_zero(3)),
    *[Semigroup(group) for order in (6, 8) for group in GROUPS[order]],
]
ALL = SAMPLES + MIDDLE


def inverses_by_definition(s, x):
    t = s.table
    return tuple(y for y in range(s.n) if t[t[x][y]][x] == x and t[t[y][x]][y] == y)


def inverse_ones():
    return [s for s in ALL if all(len(inverses_by_definition(s, x)) == 1 for x in range(s.n))]


FOUND = inverse_ones()
OTHERS = [s for s in ALL if s not in FOUND]


def is_group(s):
    every = range(s.n)
    units = [e for e in every if all(s.table[e][x] == x == s.table[x][e] for x in every)]
    return bool(units) and all(any(s.table[x][y] == units[0] for y in every) for x in every)


def below(one, two):
    every = range(len(one))
    return all(two[x] == two[y] for x in every for y in every if one[x] == one[y])


class Inverses(unittest.TestCase):
    def test_definitions(self):
        for s in ALL:
            for x in range(s.n):
                self.assertEqual(inverses_of(s, x), inverses_by_definition(s, x))
            self.assertIs(is_inverse_semigroup(s), s in FOUND)
            idempotents = [e for e in range(s.n) if s.table[e][e] == e]
            regular = all(any(s.table[s.table[x][y]][x] == x for y in range(s.n)) for x in range(s.n))
            commute = all(s.table[e][f] == s.table[f][e] for e in idempotents for f in idempotents)
            self.assertIs(is_inverse_semigroup(s), regular and commute)

    def test_examples(self):
        self.assertEqual(inverses_of(LEFT_ZERO_24, 7), tuple(range(24)))
        self.assertEqual(inverses_of(NULL_24, 7), ())
        self.assertEqual(inverses_of(NULL_24, 0), (0,))
        self.assertEqual(inverses_of(CYCLIC_24, 7), (17,))
        self.assertEqual(inverses_of(brandt(3), 1), (3,))
        for s in (CYCLIC_24, SYMMETRIC_GROUP_4, CHAIN_24, BRANDT_4, INVERSE_MONOID_2, ORDERED_PARTIAL_3, Semigroup([[0]])):
            self.assertIs(is_inverse_semigroup(s), True)
        for s in (NULL_24, LEFT_ZERO_24, BAND_24, ALL_MAPS_OF_2, null_semigroup(2), monogenic(2, 1)):
            self.assertIs(is_inverse_semigroup(s), False)

    def test_every_value(self):
        for s in (Semigroup([[0]]), NULL_24, CYCLIC_24):
            for value in odd_values() + [23, 24]:
                right = is_number(value) and 0 <= value < s.n
                self.assertEqual(error_of(inverses_of, s, value), None if right else MALFORMED)

    def test_maps(self):
        for s in FOUND:
            self.assertEqual(inverse_map(s), tuple(inverses_by_definition(s, x)[0] for x in range(s.n)))
        self.assertEqual(inverse_map(CYCLIC_24), (0, *range(23, 0, -1)))
        self.assertEqual(inverse_map(brandt(2)), (0, 2, 1, 3, 4))

    def test_refused(self):
        for s in OTHERS:
            for function in (inverse_map, group_congruence, representation):
                self.assertEqual(error_of(function, s), INVERSE)
            self.assertEqual(error_of(natural_at_most, s, 0, 0), INVERSE)


class Order(unittest.TestCase):
    def test_definition(self):
        for s in FOUND:
            idempotents = [e for e in range(s.n) if s.table[e][e] == e]
            for x, y in product(range(s.n), repeat=2):
                self.assertIs(natural_at_most(s, x, y), any(s.table[e][y] == x for e in idempotents))

    def test_order(self):
        for s in FOUND:
            every = range(s.n)
            order = {(x, y) for x, y in product(every, repeat=2) if natural_at_most(s, x, y)}
            self.assertTrue(all((x, x) in order for x in every))
            self.assertTrue(all((y, x) not in order for x, y in order if x != y))
            for (x, y), (u, v) in product(sorted(order)[:40], sorted(order)[-40:]):
                self.assertIn((s.table[x][u], s.table[y][v]), order)

    def test_examples(self):
        self.assertIs(natural_at_most(CHAIN_24, 3, 7), True)
        self.assertIs(natural_at_most(CHAIN_24, 7, 3), False)
        self.assertIs(natural_at_most(CYCLIC_24, 7, 3), False)
        self.assertIs(natural_at_most(BRANDT_4, 16, 3), True)
        self.assertIs(natural_at_most(BRANDT_4, 3, 16), False)

    def test_errors(self):
        for value in odd_values():
            if not (is_number(value) and 0 <= value < 24):
                # Malformed comes first, also where the semigroup is no inverse one.
                for s in (CYCLIC_24, NULL_24):
                    self.assertEqual(error_of(natural_at_most, s, value, 0), MALFORMED)
                    self.assertEqual(error_of(natural_at_most, s, 0, value), MALFORMED)
        self.assertEqual(error_of(natural_at_most, NULL_24, 3, 23), INVERSE)
        self.assertEqual(error_of(natural_at_most, NULL_24, 3, 24), MALFORMED)
        self.assertEqual(error_of(natural_at_most, NULL_24, True, 1), MALFORMED)


class Groups(unittest.TestCase):
    def test_least(self):
        for s in FOUND:
            if error_of(congruences, s) is not None:
                continue
            fit = [classes for classes in congruences(s) if is_group(quotient(s, classes))]
            least = [one for one in fit if all(below(one, other) for other in fit)]
            self.assertEqual([group_congruence(s)], least)

    def test_examples(self):
        self.assertEqual(group_congruence(CYCLIC_24), tuple(range(24)))
        self.assertEqual(group_congruence(CHAIN_24), (0,) * 24)
        self.assertEqual(group_congruence(BRANDT_4), (0,) * 17)
        self.assertEqual(group_congruence(with_unit(cyclic_group(4))), (0, 1, 2, 3, 0))
        s = direct_product(cyclic_group(3), by_rule(8, min))
        self.assertEqual(group_congruence(s), tuple(x // 8 * 8 for x in range(24)))


class Representation(unittest.TestCase):
    def test_definition(self):
        for s in FOUND:
            inverses = inverse_map(s)
            wanted = tuple(
                tuple(s.table[y][x] if s.table[s.table[y][x]][inverses[x]] == y else -1 for y in range(s.n))
                for x in range(s.n)
            )
            self.assertEqual(representation(s), wanted)

    def test_what_it_is_for(self):
        for s in FOUND:
            maps = representation(s)
            self.assertEqual(len(set(maps)), s.n)
            for f in maps:
                images = [point for point in f if point != -1]
                self.assertEqual(len(set(images)), len(images))
            for x, u in product(range(s.n), repeat=2):
                self.assertEqual(maps[s.table[x][u]], then(maps[x], maps[u]))

    def test_examples(self):
        self.assertEqual(representation(Semigroup([[0]])), ((0,),))
        self.assertEqual(representation(cyclic_group(2)), ((0, 1), (1, 0)))
        self.assertEqual(representation(by_rule(2, min)), ((0, -1), (0, 1)))
        self.assertEqual(representation(brandt(2))[1], (1, -1, 3, -1, 4))
