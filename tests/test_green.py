import unittest
from itertools import product

from reesblocks.build import (
    brandt, cyclic_group, null_semigroup, rectangular_band, relabeled, with_unit, with_zero,
)
from reesblocks.green import (
    d_classes, egg_box, group_at, h_classes, is_group_class, is_regular, j_at_most, j_classes, l_at_most, l_classes,
    r_at_most, r_classes, regular_elements,
)
from reesblocks.semigroup import Semigroup
from samples import ALL_MAPS_OF_2, BRANDT_4, CHAIN_24, INVERSE_MONOID_2, SAMPLES, SYMMETRIC_GROUP_4, error_of


class Multiples:
    """The sets x S^1, S^1 x and S^1 x S^1 of all elements, and the relations, by their definitions."""

    def __init__(self, s):
        every = range(s.n)
        self.right = [{x} | {s.table[x][t] for t in every} for x in every]
        self.left = [{x} | {s.table[t][x] for t in every} for x in every]
        self.both = [
            self.right[x] | self.left[x] | {s.table[s.table[t][x]][u] for t in every for u in every} for x in every
        ]

    def related(self, name, x, y):
        right, left = self.right[x] == self.right[y], self.left[x] == self.left[y]
        if name == "d":
            return any(self.right[x] == self.right[z] and self.left[z] == self.left[y] for z in range(len(self.left)))
        return {"r": right, "l": left, "h": right and left, "j": self.both[x] == self.both[y]}[name]

    def classes(self, name):
        every = range(len(self.left))
        return tuple(min(y for y in every if self.related(name, x, y)) for x in every)


DEFINED = [(s, Multiples(s)) for s in SAMPLES]


class Relations(unittest.TestCase):
    def test_definitions(self):
        functions = {"r": r_classes, "l": l_classes, "h": h_classes, "d": d_classes, "j": j_classes}
        for s, multiples in DEFINED:
            for name, function in functions.items():
                self.assertEqual(function(s), multiples.classes(name))
            self.assertEqual(d_classes(s), j_classes(s))

    def test_orders(self):
        for s, multiples in DEFINED:
            for x, y in product(range(s.n), repeat=2):
                self.assertIs(r_at_most(s, x, y), multiples.right[x] <= multiples.right[y])
                self.assertIs(l_at_most(s, x, y), multiples.left[x] <= multiples.left[y])
                self.assertIs(j_at_most(s, x, y), multiples.both[x] <= multiples.both[y])

    def test_examples(self):
        self.assertEqual(r_classes(rectangular_band(2, 3)), (0, 0, 0, 3, 3, 3))
        self.assertEqual(l_classes(rectangular_band(2, 3)), (0, 1, 2, 0, 1, 2))
        self.assertEqual(h_classes(rectangular_band(2, 3)), (0, 1, 2, 3, 4, 5))
        self.assertEqual(d_classes(rectangular_band(2, 3)), (0,) * 6)
        self.assertEqual(j_classes(null_semigroup(3)), (0, 1, 2))
        self.assertEqual(r_classes(Semigroup([[0]])), (0,))
        self.assertEqual((r_at_most(CHAIN_24, 3, 7), r_at_most(CHAIN_24, 7, 3)), (True, False))
        # An element without a unit is at most itself, also if it is no product.
        self.assertIs(r_at_most(null_semigroup(3), 2, 2), True)
        self.assertIs(l_at_most(null_semigroup(3), 2, 2), True)
        self.assertIs(j_at_most(null_semigroup(3), 2, 2), True)
        self.assertIs(j_at_most(null_semigroup(3), 1, 2), False)


class EggBoxes(unittest.TestCase):
    def test_definition(self):
        for s, multiples in DEFINED:
            every = range(s.n)
            for x in every:
                members = [y for y in every if multiples.related("d", x, y)]
                rows = sorted({tuple(z for z in members if multiples.related("r", y, z)) for y in members})
                columns = sorted({tuple(z for z in members if multiples.related("l", y, z)) for y in members})
                wanted = tuple(tuple(tuple(z for z in row if z in column) for column in columns) for row in rows)
                self.assertEqual(egg_box(s, x), wanted)
                self.assertEqual(len({len(place) for row in wanted for place in row}), 1)

    def test_examples(self):
        self.assertEqual(egg_box(Semigroup([[0]]), 0), (((0,),),))
        self.assertEqual(egg_box(rectangular_band(2, 3), 4), (((0,), (1,), (2,)), ((3,), (4,), (5,))))
        self.assertEqual(egg_box(BRANDT_4, 16), (((16,),),))
        self.assertEqual(egg_box(brandt(2), 3), (((0,), (1,)), ((2,), (3,))))
        self.assertEqual(egg_box(SYMMETRIC_GROUP_4, 5), ((tuple(range(24)),),))
        turned = relabeled(rectangular_band(2, 3), (4, 0, 2, 1, 5, 3))
        self.assertEqual(egg_box(turned, 5), (((0,), (4,), (2,)), ((5,), (1,), (3,))))
        s = with_unit(cyclic_group(3))
        self.assertEqual((egg_box(s, 1), egg_box(s, 3)), ((((0, 1, 2),),), (((3,),),)))


class Regular(unittest.TestCase):
    def test_definition(self):
        for s in SAMPLES:
            every = range(s.n)
            wanted = tuple(x for x in every if any(s.table[s.table[x][y]][x] == x for y in every))
            self.assertEqual(regular_elements(s), wanted)
            for x in every:
                self.assertIs(is_regular(s, x), x in wanted)

    def test_examples(self):
        self.assertEqual(regular_elements(null_semigroup(4)), (0,))
        self.assertEqual(regular_elements(Semigroup([[0]])), (0,))
        self.assertEqual(regular_elements(SYMMETRIC_GROUP_4), tuple(range(24)))


class Groups(unittest.TestCase):
    def test_group_classes(self):
        for s, multiples in DEFINED:
            for x in range(s.n):
                members = [y for y in range(s.n) if multiples.related("h", x, y)]
                self.assertIs(is_group_class(s, x), any(s.table[y][y] == y for y in members))
                inside = any(s.table[y][z] in members for y in members for z in members)
                self.assertIs(is_group_class(s, x), inside)

    def test_groups(self):
        for s, multiples in DEFINED:
            for e in range(s.n):
                if s.table[e][e] != e:
                    self.assertEqual(error_of(group_at, s, e), ("Refused", "idempotent"))
                    continue
                members = [y for y in range(s.n) if multiples.related("h", e, y)]
                members.remove(e)
                members.insert(0, e)
                found, table = group_at(s, e)
                self.assertEqual(found, tuple(members))
                rows = tuple(tuple(members.index(s.table[x][y]) for y in members) for x in members)
                self.assertEqual(table, rows)
                self.assertTrue(all(0 in row for row in table))
                self.assertEqual(table[0], tuple(range(len(members))))

    def test_examples(self):
        self.assertEqual(group_at(Semigroup([[0]]), 0), ((0,), ((0,),)))
        # The unit of this group is its last element.
        turned = Semigroup([[1, 2, 0], [2, 0, 1], [0, 1, 2]])
        self.assertEqual(group_at(turned, 2), ((2, 0, 1), ((0, 1, 2), (1, 2, 0), (2, 0, 1))))
        self.assertEqual(group_at(with_zero(turned), 3), ((3,), ((0,),)))
        self.assertEqual(error_of(group_at, turned, 0), ("Refused", "idempotent"))
        self.assertEqual(is_group_class(turned, 0), True)
        self.assertEqual(is_group_class(INVERSE_MONOID_2, INVERSE_MONOID_2.zero()), True)
        self.assertEqual([is_group_class(brandt(2), x) for x in range(5)], [True, False, False, True, True])
        self.assertEqual(len(group_at(ALL_MAPS_OF_2, ALL_MAPS_OF_2.unit())[0]), 2)
