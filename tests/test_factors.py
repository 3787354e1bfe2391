import unittest
from itertools import product

from reesblocks.build import (
    brandt, cyclic_group, direct_product, left_zero, monogenic, null_semigroup, rectangular_band, with_unit, with_zero,
)
from reesblocks.factors import factor_kind, is_null, is_simple, is_zero_simple, principal_factor
from reesblocks.green import is_regular, j_classes
from reesblocks.parts import least_ideal
from reesblocks.semigroup import Semigroup
from samples import (
    ALL_MAPS_OF_2, BAND_24, BRANDT_4, CHAIN_24, CYCLIC_24, INVERSE_MONOID_2, NULL_24, SAMPLES, SMALL, SYMMETRIC_GROUP_4,
    subsets,
)

ONE = Semigroup([[0]])


def ideals(s):
    """All ideals, by looking at all subsets."""
    every = range(s.n)
    return [
        part for part in subsets(s.n)
        if part and all(s.table[x][y] in part and s.table[y][x] in part for x in part for y in every)
    ]


def zeros(s):
    return [z for z in range(s.n) if all(s.table[z][x] == z == s.table[x][z] for x in range(s.n))]


def factor_table(s, x):
    """The principal factor by its definition; the zero is told as None until the end."""
    every = range(s.n)
    below = [{y} | {s.table[y][t] for t in every} | {s.table[t][y] for t in every}
             | {s.table[s.table[t][y]][u] for t in every for u in every} for y in every]
    members = [y for y in every if below[y] == below[x]]
    kernel = set.intersection(*below)
    if set(members) == kernel:
        return tuple(tuple(members.index(s.table[y][z]) for z in members) for y in members)
    labels = members + [None]
    products = {
        (y, z): s.table[y][z] if None not in (y, z) and s.table[y][z] in members else None
        for y, z in product(labels, repeat=2)
    }
    return tuple(tuple(labels.index(products[y, z]) for z in labels) for y in labels)


class Kinds(unittest.TestCase):
    def test_definitions(self):
        for s in SMALL + [ALL_MAPS_OF_2, INVERSE_MONOID_2, brandt(2), rectangular_band(2, 3), monogenic(3, 2)]:
            found = ideals(s)
            every = tuple(range(s.n))
            null = any(all(xy == z for row in s.table for xy in row) for z in zeros(s))
            self.assertIs(is_simple(s), found == [every])
            self.assertIs(is_null(s), null)
            zero_simple = any(sorted(found) == sorted([(z,), every]) for z in zeros(s)) and not null
            self.assertIs(is_zero_simple(s), zero_simple)

    def test_one_element(self):
        self.assertIs(is_simple(ONE), True)
        self.assertIs(is_null(ONE), True)
        self.assertIs(is_zero_simple(ONE), False)

    def test_two_elements_with_a_zero(self):
        # Both have no ideals but the zero and all, but the first one is null.
        self.assertIs(is_zero_simple(null_semigroup(2)), False)
        self.assertIs(is_zero_simple(with_zero(ONE)), True)
        self.assertIs(is_null(null_semigroup(2)), True)
        self.assertIs(is_null(with_zero(ONE)), False)
        self.assertIs(is_null(Semigroup([[1, 1], [1, 1]])), True)

    def test_larger_ones(self):
        simple = [CYCLIC_24, BAND_24, SYMMETRIC_GROUP_4, left_zero(24), direct_product(cyclic_group(3), left_zero(8))]
        zero_simple = [BRANDT_4, with_zero(cyclic_group(2)), with_zero(left_zero(23))]
        neither = [CHAIN_24, ALL_MAPS_OF_2, with_unit(cyclic_group(23)), monogenic(9, 16), with_zero(BRANDT_4)]
        for s in simple + zero_simple + neither + [NULL_24]:
            self.assertIs(is_simple(s), s in simple)
            self.assertIs(is_zero_simple(s), s in zero_simple)
            self.assertIs(is_null(s), s is NULL_24)


class Factors(unittest.TestCase):
    def test_definition(self):
        for s in SAMPLES:
            for x in range(s.n):
                found = principal_factor(s, x)
                self.assertIsInstance(found, Semigroup)
                self.assertEqual(found.table, factor_table(s, x))

    def test_kinds(self):
        for s in SAMPLES:
            classes, kernel = j_classes(s), least_ideal(s)
            for x in range(s.n):
                kind, factor = factor_kind(s, x), principal_factor(s, x)
                self.assertIs(kind == "simple", x in kernel)
                self.assertIs(kind == "zerosimple", x not in kernel and is_regular(s, x))
                self.assertIn(kind, ("simple", "zerosimple", "null"))
                told = {"simple": is_simple, "zerosimple": is_zero_simple, "null": is_null}[kind]
                self.assertTrue(told(factor))
                self.assertEqual(factor.n, classes.count(classes[x]) + (kind != "simple"))
                self.assertLessEqual(factor.n, s.n)

    def test_examples(self):
        self.assertEqual(principal_factor(ONE, 0), ONE)
        self.assertEqual(factor_kind(ONE, 0), "simple")
        # The kernel's own factor has no zero more, also where the kernel is the zero alone.
        self.assertEqual(principal_factor(NULL_24, 0), ONE)
        self.assertEqual(principal_factor(NULL_24, 7), Semigroup([[1, 1], [1, 1]]))
        self.assertEqual((factor_kind(NULL_24, 0), factor_kind(NULL_24, 7)), ("simple", "null"))
        self.assertEqual(principal_factor(CYCLIC_24, 5), CYCLIC_24)
        self.assertEqual(principal_factor(CHAIN_24, 5), Semigroup([[0, 1], [1, 1]]))
        self.assertEqual([factor_kind(CHAIN_24, x) for x in (0, 1, 23)], ["simple", "zerosimple", "zerosimple"])
        self.assertEqual(principal_factor(brandt(2), 0), brandt(2))
        self.assertEqual(principal_factor(brandt(2), 4), ONE)
        s = with_unit(cyclic_group(3))
        self.assertEqual(principal_factor(s, 1), cyclic_group(3))
        self.assertEqual(principal_factor(s, 3), Semigroup([[0, 1], [1, 1]]))
        self.assertEqual([factor_kind(monogenic(3, 2), x) for x in range(4)], ["null", "null", "simple", "simple"])
