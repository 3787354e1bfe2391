import unittest
from itertools import permutations, product
from random import Random

from reesblocks.build import (
    brandt, cyclic_group, direct_product, left_zero, null_semigroup, rectangular_band, relabeled, with_unit, with_zero,
)
from reesblocks.factors import is_simple, is_zero_simple
from reesblocks.groups import group_form
from reesblocks.rees import Rees, alike, coordinates, normal_form, to_form
from reesblocks.semigroup import Semigroup
from samples import (
    BAND_24, BRANDT_4, CHAIN_24, CYCLIC_24, EIGHT_TWOS, FOUR_GROUP, GROUPS, LARGE, MALFORMED, NULL_24, SAMPLES,
    SIXTEEN_TWOS, SYMMETRIC_3, SYMMETRIC_GROUP_4, cyclic, error_of, is_number, odd_values, renamed,
)

ONE, TWO, THREE = cyclic(1), cyclic(2), cyclic(3)
REGULAR = ("Refused", "regular")
SIMPLE = ("Refused", "simple")


def table_of(zero, group, matrix):
    """The table of the semigroup by its definition, with the zero told as None until the end."""
    m, b, a = len(group), len(matrix), len(matrix[0])
    triples = [(i, g, k) for i in range(a) for g in range(m) for k in range(b)]
    labels = triples + [None] if zero else triples

    def times(one, two):
        if one is None or two is None or matrix[one[2]][two[0]] == -1:
            return None
        return (one[0], group[group[one[1]][matrix[one[2]][two[0]]]][two[1]], two[2])

    return tuple(tuple(labels.index(times(one, two)) for two in labels) for one in labels)


def is_isomorphism(images, s, t):
    every = range(s.n)
    return isinstance(images, tuple) and sorted(images) == list(every) == list(range(t.n)) and all(
        images[s.table[x][y]] == t.table[images[x]][images[y]] for x, y in product(every, repeat=2)
    )


def automorphisms(group):
    n = len(group)
    for images in permutations(range(n)):
        if all(images[group[x][y]] == group[images[x]][images[y]] for x, y in product(range(n), repeat=2)):
            yield images


def least_by_definition(group, matrix):
    """The least of all matrices that are equivalent over one group, which has its normal form already."""
    b, a, m = len(matrix), len(matrix[0]), len(group)
    best = None
    for images in automorphisms(group):
        for v, u in product(product(range(m), repeat=b), product(range(m), repeat=a)):
            found = [
                [-1 if p == -1 else group[group[v[k]][images[p]]][u[j]] for j, p in enumerate(row)]
                for k, row in enumerate(matrix)
            ]
            for rows in permutations(found):
                for order in permutations(range(a)):
                    other = tuple(tuple(row[j] for j in order) for row in rows)
                    best = other if best is None else min(best, other)
    return best


def matrices(a, b, entries):
    """All regular matrices of a columns and b rows."""
    for cells in product(entries, repeat=a * b):
        rows = tuple(cells[a * k:a * k + a] for k in range(b))
        if all(set(line) != {-1} for line in (*rows, *zip(*rows))):
            yield rows


def many_data():
    """Data of all groups and shapes with at most 24 elements, with chosen matrices."""
    random = Random(7)
    groups = [group for order in GROUPS.values() for group in order] + [SIXTEEN_TWOS]
    for group in groups:
        m = len(group)
        for a, b, zero in product(range(1, 25), range(1, 25), (False, True)):
            if a * b * m + zero <= 24:
                rows = [[random.randrange(-1 if zero else 0, m) for _ in range(a)] for _ in range(b)]
                for k in range(max(a, b)):
                    rows[k % b][k % a] = random.randrange(m)
                yield Rees(zero, group, rows)


def equivalent(data, random):
    """Other data for an isomorphic semigroup: another name for each element, another order, other factors."""
    m, b, a = len(data.group), len(data.matrix), len(data.matrix[0])
    t = (0, *random.sample(range(1, m), m - 1))
    group = renamed(data.group, t)
    rows, columns = random.sample(range(b), b), random.sample(range(a), a)
    v, u = [random.randrange(m) for _ in range(b)], [random.randrange(m) for _ in range(a)]
    return Rees(data.zero, group, [
        [-1 if data.matrix[k][j] == -1 else group[group[v[k]][t[data.matrix[k][j]]]][u[j]] for j in columns]
        for k in rows
    ])


DATA = list(many_data())


class Data(unittest.TestCase):
    def test_fields(self):
        data = Rees(True, [[0, 1], [1, 0]], [[1, 1], (0, -1)])
        self.assertIs(data.zero, True)
        self.assertEqual(data.group, ((0, 1), (1, 0)))
        self.assertEqual(data.matrix, ((1, 1), (0, -1)))
        self.assertIs(Rees(False, ((0,),), ((0,),)).zero, False)

    def test_numbers(self):
        for data in DATA:
            m, b, a = len(data.group), len(data.matrix), len(data.matrix[0])
            triples = list(product(range(a), range(m), range(b)))
            self.assertEqual(data.size(), len(triples) + data.zero)
            for x, (i, g, k) in enumerate(triples):
                self.assertEqual(data.number(i, g, k), (i * m + g) * b + k)
                self.assertEqual(data.number(i, g, k), x)
                self.assertEqual(data.triple(x), (i, g, k))
                self.assertIsInstance(data.triple(x), tuple)
            if data.zero:
                self.assertIsNone(data.triple(len(triples)))

    def test_semigroups(self):
        for data in DATA:
            s = data.semigroup()
            self.assertIsInstance(s, Semigroup)
            self.assertEqual(s.table, table_of(data.zero, data.group, data.matrix))
            self.assertIs(is_zero_simple(s) if data.zero else is_simple(s), True)

    def test_known_semigroups(self):
        self.assertEqual(Rees(False, ONE, [[0]]).semigroup(), Semigroup([[0]]))
        self.assertEqual(Rees(True, ONE, [[0]]).semigroup(), Semigroup([[0, 1], [1, 1]]))
        self.assertEqual(Rees(False, ONE, [[0] * 4] * 6).semigroup(), rectangular_band(4, 6))
        self.assertEqual(Rees(False, ONE, [[0] * 24]).semigroup(), left_zero(24))
        self.assertEqual(Rees(False, cyclic(24), [[0]]).semigroup(), CYCLIC_24)
        self.assertEqual(Rees(True, ONE, [[0, -1], [-1, 0]]).semigroup(), brandt(2))
        self.assertEqual(Rees(True, cyclic(23), [[0]]).semigroup(), with_zero(cyclic_group(23)))

    def test_equality(self):
        data = Rees(True, TWO, ((1, 1), (0, -1)))
        self.assertIs(data == Rees(True, [[0, 1], [1, 0]], [(1, 1), [0, -1]]), True)
        self.assertIs(data == Rees(True, TWO, ((1, 1), (0, 0))), False)
        self.assertIs(Rees(True, TWO, ((1, 1),)) == Rees(False, TWO, ((1, 1),)), False)
        self.assertIs(Rees(False, ONE, ((0,),)) == Rees(False, TWO, ((0,),)), False)
        self.assertIs(data != Rees(True, TWO, ((1, 1), (0, -1))), False)
        for value in odd_values():
            self.assertIs(data == value, False)
        self.assertIs(data == (True, data.group, data.matrix), False)


class Refusing(unittest.TestCase):
    def test_malformed(self):
        wrong = [
            (0, TWO, ((0,),)), (1, TWO, ((0,),)), (None, TWO, ((0,),)), ("True", TWO, ((0,),)),
            (True, ((1, 0), (0, 1)), ((0,),)), (True, ((0, 1), (1, 1)), ((0,),)), (True, ((0, 1), (1, False)), ((0,),)),
            (True, (), ((0,),)), (True, 2, ((0,),)), (True, None, ((0,),)), (True, "0", ((0,),)),
            (True, TWO, ()), (True, TWO, ((),)), (True, TWO, [[], []]), (True, TWO, ((0, 1), (1,))), (True, TWO, ((2,),)),
            (True, TWO, ((-2,),)), (False, TWO, ((-1,),)), (False, TWO, ((0, 1), (1, -1))), (True, TWO, ((True,),)),
            (True, TWO, ((False, 0),)), (True, TWO, (0,)), (True, TWO, 0), (True, TWO, None), (True, TWO, "0"),
            (True, TWO, ("0",)), (True, TWO, (("0",),)), (True, TWO, ((None,),)), (True, TWO, (((0,),),)),
            (True, TWO, {0: (0,)}), (True, TWO, ((0, 1), None)), (True, TWO, ((10 ** 5000,),)),
        ]
        for arguments in wrong:
            self.assertEqual(error_of(Rees, *arguments), MALFORMED, arguments)

    def test_every_value(self):
        for value in odd_values():
            if not isinstance(value, bool):
                self.assertEqual(error_of(Rees, value, TWO, ((0,),)), MALFORMED)
            groups = ([[0]], ((0,),), ([0],), [(0,)], ((0, 1), (1, 0)))
            group = value in groups and is_number(value[0][0])
            self.assertEqual(error_of(Rees, False, value, ((0,),)), None if group else MALFORMED)
            # Over the group of two elements these are matrices.
            matrix = value in (*groups, ((0, 0), (0, 0)), [(0, 0), (0, 0)], ((0, 1),), [[1]])
            matrix = matrix and all(is_number(x) for row in value for x in row)
            self.assertEqual(error_of(Rees, False, TWO, value), None if matrix else MALFORMED)

    def test_large(self):
        self.assertIsNone(error_of(Rees, False, ONE, [[0] * 24]))
        self.assertIsNone(error_of(Rees, True, ONE, [[0] * 23]))
        self.assertEqual(error_of(Rees, True, ONE, [[0] * 24]), LARGE)
        self.assertEqual(error_of(Rees, False, ONE, [[0] * 25]), LARGE)
        self.assertEqual(error_of(Rees, False, ONE, [[0]] * 25), LARGE)
        self.assertEqual(error_of(Rees, False, cyclic(25), ((0,),)), LARGE)
        self.assertIsNone(error_of(Rees, False, cyclic(24), ((0,),)))
        self.assertEqual(error_of(Rees, True, cyclic(24), ((0,),)), LARGE)
        self.assertIsNone(error_of(Rees, False, TWO, [[0] * 4] * 3))
        self.assertEqual(error_of(Rees, True, TWO, [[0] * 4] * 3), LARGE)

    def test_regular(self):
        wrong = [
            ((-1,),), ((-1, -1),), ((-1,), (-1,)), ((0, -1),), ((-1, 1),), ((0,), (-1,)), ((0, 0), (-1, -1)),
            ((0, -1), (1, -1)), [[-1, -1], [-1, -1]],
        ]
        for matrix in wrong:
            self.assertEqual(error_of(Rees, True, TWO, matrix), REGULAR)
        for matrix in (((0, -1), (-1, 0)), ((0, 1),), ((1,), (0,)), ((-1, 0), (0, 0))):
            self.assertIsNone(error_of(Rees, True, TWO, matrix))

    def test_order(self):
        self.assertEqual(error_of(Rees, False, ONE, [[-1] * 25]), MALFORMED)
        self.assertEqual(error_of(Rees, True, ONE, [[-1] * 25 + [True]]), MALFORMED)
        self.assertEqual(error_of(Rees, 1, cyclic(25), [[-1]]), MALFORMED)
        self.assertEqual(error_of(Rees, True, cyclic(25), [[25]]), MALFORMED)
        self.assertEqual(error_of(Rees, True, ONE, [[-1] * 25]), LARGE)
        self.assertEqual(error_of(Rees, True, ONE, [[-1] * 24]), LARGE)
        self.assertEqual(error_of(Rees, True, ONE, [[-1] * 23]), REGULAR)


class Coordinates(unittest.TestCase):
    def check(self, s):
        if not is_simple(s) and not is_zero_simple(s):
            self.assertEqual(error_of(coordinates, s), SIMPLE)
            return
        data, images = coordinates(s)
        self.assertIsInstance(data, Rees)
        self.assertIs(data.zero, is_zero_simple(s))
        self.assertTrue(is_isomorphism(images, s, data.semigroup()))

    def test_samples(self):
        for s in SAMPLES:
            self.check(s)

    def test_data(self):
        random = Random(3)
        for data in DATA:
            s = data.semigroup()
            other = relabeled(s, tuple(random.sample(range(s.n), s.n)))
            self.check(other)
            self.assertEqual(normal_form(coordinates(other)[0]), normal_form(data))

    def test_examples(self):
        data, images = coordinates(Semigroup([[0]]))
        self.assertEqual((data, images), (Rees(False, ONE, ((0,),)), (0,)))
        # This has a zero, and its zero stands in the middle.
        s = Semigroup([[0, 1, 2], [1, 1, 1], [2, 1, 0]])
        data, images = coordinates(s)
        self.assertEqual((data.zero, data.group, data.matrix, images[1]), (True, TWO, ((0,),), 2))
        for s in (null_semigroup(2), NULL_24, CHAIN_24, with_unit(cyclic_group(3)), with_zero(brandt(2))):
            self.assertEqual(error_of(coordinates, s), SIMPLE)
        for s in (BRANDT_4, BAND_24, CYCLIC_24, SYMMETRIC_GROUP_4, left_zero(24), direct_product(left_zero(8), cyclic_group(3))):
            self.check(s)


class Forms(unittest.TestCase):
    def test_example(self):
        data = Rees(True, ((0, 1), (1, 0)), ((1, 1), (0, -1)))
        self.assertEqual(normal_form(data).matrix, ((-1, 0), (0, 0)))
        self.assertEqual(normal_form(data), Rees(True, TWO, ((-1, 0), (0, 0))))

    def test_least_of_all(self):
        shapes = [
            (ONE, 1, 1), (ONE, 2, 2), (ONE, 3, 2), (ONE, 2, 3), (ONE, 3, 3), (TWO, 1, 1), (TWO, 2, 2), (TWO, 3, 2),
            (TWO, 2, 3), (THREE, 2, 2), (THREE, 1, 3), (THREE, 3, 1), (cyclic(4), 2, 1), (FOUR_GROUP, 1, 2),
        ]
        for group, a, b in shapes:
            group = group_form(group)
            for zero in (False, True):
                for matrix in matrices(a, b, range(-1 if zero else 0, len(group))):
                    wanted = least_by_definition(group, matrix)
                    self.assertEqual(normal_form(Rees(zero, group, matrix)), Rees(zero, group, wanted))

    def test_least_of_all_over_larger_groups(self):
        random = Random(5)
        for group, a, b in [(cyclic(4), 2, 2), (FOUR_GROUP, 2, 2), (SYMMETRIC_3, 1, 2), (SYMMETRIC_3, 2, 1)]:
            group = group_form(group)
            for matrix in random.sample(list(matrices(a, b, range(-1, len(group)))), 4):
                wanted = least_by_definition(group, matrix)
                if a * b * len(group) < 24:
                    self.assertEqual(normal_form(Rees(True, group, matrix)), Rees(True, group, wanted))
                if not any(-1 in row for row in matrix):
                    self.assertEqual(normal_form(Rees(False, group, matrix)), Rees(False, group, wanted))
        group = group_form(SYMMETRIC_3)
        matrix = ((1, 2), (3, 4))
        self.assertEqual(normal_form(Rees(False, group, matrix)).matrix, least_by_definition(group, matrix))

    def test_isomorphisms_onto_the_form(self):
        for data in DATA:
            form, images = to_form(data)
            self.assertEqual(form, normal_form(data))
            self.assertEqual(form.group, group_form(data.group))
            self.assertTrue(is_isomorphism(images, data.semigroup(), form.semigroup()))
            self.assertEqual(normal_form(form), form)

    def test_isomorphisms_over_a_group_that_does_not_commute(self):
        random = Random(2)
        for matrix in random.sample(list(matrices(2, 2, range(6))), 40):
            data = Rees(False, SYMMETRIC_3, matrix)
            form, images = to_form(data)
            self.assertTrue(is_isomorphism(images, data.semigroup(), form.semigroup()))
            self.assertEqual(normal_form(equivalent(data, random)), form)

    def test_equivalent_data(self):
        random = Random(9)
        for data in DATA:
            other = equivalent(data, random)
            self.assertEqual(normal_form(other), normal_form(data))
            self.assertIs(alike(data, other), True)

    def test_one_row_or_column(self):
        for group in (ONE, TWO, THREE, FOUR_GROUP, SYMMETRIC_3, EIGHT_TWOS):
            for many in range(1, 24 // len(group) + 1):
                line = [k % len(group) for k in range(many)]
                for matrix in ([line], [[entry] for entry in line]):
                    wanted = tuple(tuple(0 for _ in row) for row in matrix)
                    self.assertEqual(normal_form(Rees(False, group, matrix)).matrix, wanted)
                    if many * len(group) < 24:
                        self.assertEqual(normal_form(Rees(True, group, matrix)).matrix, wanted)

    def test_unlike_data(self):
        pairs = [
            (Rees(False, ONE, ((0,),)), Rees(True, ONE, ((0,),))),
            (Rees(False, ONE, ((0, 0),)), Rees(False, ONE, ((0,), (0,)))),
            (Rees(False, cyclic(4), ((0,),)), Rees(False, FOUR_GROUP, ((0,),))),
            (Rees(False, TWO, ((0, 0), (0, 1))), Rees(False, TWO, ((0, 0), (1, 1)))),
            (Rees(True, TWO, ((0, -1), (-1, 0))), Rees(True, TWO, ((0, -1), (0, 0)))),
            (Rees(True, TWO, ((0, 0), (0, 0))), Rees(True, TWO, ((0, -1), (0, 0)))),
            (Rees(True, ONE, ((0, 0, -1, -1), (-1, -1, 0, 0))), Rees(True, ONE, ((0, 0, 0, -1), (-1, -1, -1, 0)))),
            (Rees(False, cyclic(24), ((0,),)), Rees(False, GROUPS[24][1], ((0,),))),
        ]
        for one, two in pairs:
            self.assertIs(alike(one, two), False)
            self.assertIs(alike(two, one), False)
            self.assertIs(alike(one, one), True)
            self.assertFalse(normal_form(one) == normal_form(two))

    def test_alike_exactly_if_isomorphic(self):
        for group, a, b in [(ONE, 2, 2), (ONE, 2, 1), (TWO, 1, 2), (THREE, 1, 1), (FOUR_GROUP, 1, 1), (cyclic(4), 1, 1)]:
            for one, two in product(matrices(a, b, range(-1, len(group))), repeat=2):
                one, two = Rees(True, group, one), Rees(True, group, two)
                s, t = one.semigroup(), two.semigroup()
                wanted = any(is_isomorphism(images, s, t) for images in permutations(range(s.n)))
                self.assertIs(alike(one, two), wanted)
