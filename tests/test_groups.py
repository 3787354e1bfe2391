import unittest
from itertools import permutations, product

from reesblocks.groups import form_maps, group_form, group_isomorphisms, is_group_table
from samples import (
    EIGHT_TWOS, FOUR_GROUP, GROUPS, QUATERNIONS, SIXTEEN_TWOS, SYMMETRIC_3, all_tables, cyclic, is_associative, is_number,
    odd_values, renamed, times, twisted,
)

ALL = [group for groups in GROUPS.values() for group in groups] + [SIXTEEN_TWOS]

# A unit, and each element once in each row and each column, but no associative product.
LOOP = ((0, 1, 2, 3, 4), (1, 0, 3, 4, 2), (2, 4, 0, 1, 3), (3, 2, 4, 0, 1), (4, 3, 1, 2, 0))


def is_group(table):
    n = len(table)
    every = range(n)
    return (
        is_associative(table) and all(table[0][x] == x == table[x][0] for x in every)
        and all(any(table[x][y] == 0 == table[y][x] for y in every) for x in every)
    )


def generated(table, some):
    known = {0}
    while True:
        more = known | {table[x][g] for x in known for g in some}
        if more == known:
            return known
        known = more


def enumerated(table, some):
    """The unit, then the other elements in the order of their least words, by listing all words."""
    order = [0]
    length = 0
    while len(order) < len(table):
        length += 1
        for word in product(range(len(some)), repeat=length):
            x = 0
            for index in word:
                x = table[x][some[index]]
            if x not in order:
                order.append(x)
    return order


def enumerations(table):
    """All enumerations by generators of the least number."""
    for many in range(len(table) + 1):
        rows = list(product(range(1, len(table)), repeat=many))
        found = [enumerated(table, some) for some in rows if len(generated(table, some)) == len(table)]
        if found:
            return found
    return None


def table_of(table, order):
    return tuple(tuple(order.index(table[x][y]) for y in order) for x in order)


def is_isomorphism(images, one, two):
    every = range(len(one))
    return sorted(images) == list(every) == list(range(len(two))) and all(
        images[one[x][y]] == two[images[x]][images[y]] for x, y in product(every, repeat=2)
    )


def all_isomorphisms(one, two):
    if len(one) != len(two):
        return ()
    return tuple(images for images in permutations(range(len(one))) if is_isomorphism(images, one, two))


class Tables(unittest.TestCase):
    def test_all_small_tables(self):
        for n in (1, 2, 3):
            for table in all_tables(n):
                self.assertIs(is_group_table(table), is_group(table))

    def test_groups(self):
        for group in ALL:
            self.assertIs(is_group_table(group), True)
            self.assertIs(is_group_table([list(row) for row in group]), True)
            self.assertIs(is_group_table([tuple(row) for row in group]), True)

    def test_no_limit_of_the_order(self):
        self.assertIs(is_group_table(cyclic(25)), True)
        self.assertIs(is_group_table(cyclic(60)), True)
        self.assertIs(is_group_table(times(SIXTEEN_TWOS, FOUR_GROUP)), True)

    def test_one_entry_changed(self):
        for group in (cyclic(4), FOUR_GROUP, SYMMETRIC_3):
            for x, y, z in product(range(len(group)), repeat=3):
                rows = [list(row) for row in group]
                rows[x][y] = z
                self.assertIs(is_group_table(rows), z == group[x][y])

    def test_no_groups(self):
        self.assertIs(is_group_table(LOOP), False)
        # The unit of this group is not 0.
        self.assertIs(is_group_table(((1, 0), (0, 1))), False)
        self.assertIs(is_group_table(((1, 2, 0), (2, 0, 1), (0, 1, 2))), False)
        # A unit, but no inverses.
        self.assertIs(is_group_table(((0, 1), (1, 1))), False)
        self.assertIs(is_group_table(((0, 1, 2), (1, 1, 1), (2, 2, 2))), False)
        for wrong in (
            ((0, 1), (1, False)), ((False,),), [[0, True], [True, 0]], ((0, 1), (1,)), ((0, 1),), ((0, 1), (1, 2)),
            ((0, 1), (1, -2)), ((0, 1), "10"), ((0, 1), {1: 0}), ((0, 1), None), (0, 1), ((0, 1), (1, 0), (0, 1)),
            ((0, 1), (1, (0,))), ((0, 1), (1, "0")), ((0, 1), (1, None)), ((0, 1), (1, 10 ** 5000)),
        ):
            self.assertIs(is_group_table(wrong), False)

    def test_every_value(self):
        for value in odd_values():
            right = value in ([[0]], ((0,),), ([0],), [(0,)], ((0, 1), (1, 0))) and is_number(value[0][0])
            self.assertIs(is_group_table(value), right)


class Forms(unittest.TestCase):
    def test_definition(self):
        for group in [group for group in ALL if len(group) <= 8 and group != EIGHT_TWOS] + [SYMMETRIC_3]:
            found = enumerations(group)
            form = min(table_of(group, order) for order in found)
            self.assertEqual(group_form(group), form)
            wanted = sorted(
                tuple(order.index(x) for x in range(len(group))) for order in found if table_of(group, order) == form
            )
            self.assertEqual(form_maps(group), tuple(wanted))
            self.assertEqual(form_maps([list(row) for row in group]), tuple(wanted))

    def test_examples(self):
        self.assertEqual(group_form(((0,),)), ((0,),))
        self.assertEqual(form_maps([[0]]), ((0,),))
        self.assertEqual(group_form([[0, 1], [1, 0]]), ((0, 1), (1, 0)))
        self.assertEqual(form_maps(cyclic(3)), ((0, 1, 2), (0, 2, 1)))
        self.assertEqual(group_form(FOUR_GROUP), ((0, 1, 2, 3), (1, 0, 3, 2), (2, 3, 0, 1), (3, 2, 1, 0)))
        self.assertEqual(len(form_maps(FOUR_GROUP)), 6)
        self.assertEqual(group_form(cyclic(24)), cyclic(24))

    def test_isomorphic_groups_have_one_form(self):
        for group in ALL:
            n = len(group)
            form = group_form(group)
            self.assertTrue(is_group(form))
            self.assertEqual(group_form(form), form)
            for k in (1, n // 2, n - 1):
                images = (0,) + tuple((x + k - 1) % (n - 1) + 1 for x in range(1, n)) if n > 1 else (0,)
                self.assertEqual(group_form(renamed(group, images)), form)

    def test_unlike_groups_have_unlike_forms(self):
        for groups in GROUPS.values():
            forms = [group_form(group) for group in groups]
            self.assertEqual(len(set(forms)), len(groups))

    def test_the_numbers_of_isomorphisms(self):
        many = {
            8: [4, 8, 168, 8, 24], 12: [4, 12, 12, 24, 12],
            24: [8, 16, 336, 24, 24, 48, 24, 16, 24, 48, 144, 48],
        }
        for order, numbers in many.items():
            self.assertEqual([len(form_maps(group)) for group in GROUPS[order]], numbers)
        self.assertEqual(len(form_maps(SIXTEEN_TWOS)), 20160)

    def test_maps_are_isomorphisms_in_order(self):
        for group in ALL:
            form, found = group_form(group), form_maps(group)
            self.assertEqual(list(found), sorted(set(found)))
            for images in found[:500]:
                self.assertTrue(is_isomorphism(images, group, form))
            self.assertTrue(all(is_number(x) for x in found[0]))


class Isomorphisms(unittest.TestCase):
    def test_all_of_them(self):
        small = [group for group in ALL if len(group) <= 6]
        for one, two in product(small + [renamed(SYMMETRIC_3, (0, 3, 5, 1, 4, 2))], repeat=2):
            self.assertEqual(group_isomorphisms(one, two), all_isomorphisms(one, two))

    def test_orders_of_8(self):
        for one, two in product(GROUPS[8], repeat=2):
            found = group_isomorphisms(one, two)
            self.assertEqual(bool(found), one == two)
            self.assertEqual(list(found), sorted(set(found)))
            self.assertEqual(len(found), len(form_maps(one)) if one == two else 0)
            self.assertTrue(all(is_isomorphism(images, one, two) for images in found))

    def test_24(self):
        one = twisted(12, 2, 5)
        two = renamed(one, (0, *range(23, 0, -1)))
        found = group_isomorphisms([list(row) for row in one], two)
        self.assertEqual(len(found), 24)
        self.assertEqual(list(found), sorted(set(found)))
        self.assertTrue(all(is_isomorphism(images, one, two) for images in found))
        self.assertEqual(group_isomorphisms(one, twisted(12, 2, 7)), ())

    def test_unlike_orders(self):
        self.assertEqual(group_isomorphisms(cyclic(2), cyclic(3)), ())
        self.assertEqual(group_isomorphisms(cyclic(1), FOUR_GROUP), ())
        self.assertEqual(group_isomorphisms(((0,),), [[0]]), ((0,),))
        self.assertEqual(group_isomorphisms(QUATERNIONS, EIGHT_TWOS), ())
