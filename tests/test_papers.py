import unittest
from itertools import product

from reesblocks.build import (
    brandt, cyclic_group, direct_product, left_zero, monogenic, null_semigroup, opposite, rectangular_band, relabeled,
    right_zero, with_unit, with_zero,
)
from reesblocks.checker import takes_identity, takes_inverse, takes_join, takes_pair, takes_rees
from reesblocks.congruence import congruences, generated, quotient
from reesblocks.homs import count_homomorphisms, find_isomorphism
from reesblocks.papers import identity_paper, inverse_paper, join_paper, pair_paper, rees_paper
from reesblocks.semigroup import Semigroup
from samples import (
    ALL_MAPS_OF_2, BAND_24, BRANDT_4, CHAIN_24, CYCLIC_24, GROUPS, GROUP_WITH_ZERO, LARGER, LEFT_ZERO_24, MALFORMED,
    MONOGENIC_24, NULL_24, SAMPLES, SIXTEEN_TWOS, SMALL, SYMMETRIC_GROUP_4, WORDS, error_of, is_number, odd_values,
)
from test_checker import right_identity, right_inverse, right_join, right_pair, right_rees
from test_homs import layered

ONE = Semigroup([[0]])
MANY = ("Refused", "many")
MIDDLE = [
    ALL_MAPS_OF_2, brandt(2), brandt(3), monogenic(2, 3), with_unit(left_zero(3)), with_zero(cyclic_group(3)),
    with_unit(null_semigroup(3)), with_zero(null_semigroup(3)), rectangular_band(2, 3), null_semigroup(4),
    direct_product(left_zero(2), cyclic_group(2)), direct_product(null_semigroup(2), cyclic_group(2)),
    direct_product(ALL_MAPS_OF_2, cyclic_group(2)), with_zero(brandt(2)), with_zero(rectangular_band(2, 2)),
    *[Semigroup(group) for order in (4, 6, 8) for group in GROUPS[order]],
]


class Pairs(unittest.TestCase):
    def check(self, a, b):
        paper = pair_paper(a, b)
        self.assertIs(takes_pair(a, b, paper), True)
        images = find_isomorphism(a, b)
        if a.n != b.n:
            self.assertEqual(paper, ("sizes",))
        elif images is not None:
            self.assertEqual(paper, ("isomorphic", images))
        else:
            self.assertEqual(paper, ("unlike", *self.first_unlike(a, b)))

    def first_unlike(self, a, b):
        for classes in congruences(a):
            m, k = count_homomorphisms(quotient(a, classes), a), count_homomorphisms(quotient(a, classes), b)
            if m != k:
                return classes, m, k
        return None

    def test_small_ones(self):
        for a, b in product(SMALL, repeat=2):
            if a.n < 3 or b.n < 3 or SMALL.index(a) % 7 == SMALL.index(b) % 7:
                self.check(a, b)
                self.assertIs(right_pair(a, b, pair_paper(a, b)), True)

    def test_middle_ones(self):
        for a, b in product(MIDDLE, repeat=2):
            self.check(a, b)

    def test_larger_ones(self):
        larger = [s for s in LARGER if s.n == 24 and error_of(congruences, s) is None]
        larger += [Semigroup(group) for group in GROUPS[24][4:6]]
        for a, b in product(larger, repeat=2):
            self.check(a, b)
        for s in LARGER:
            other = relabeled(s, (*range(1, s.n), 0))
            self.check(s, other)
            self.assertEqual(pair_paper(s, other)[0], "isomorphic")

    def test_least_isomorphism(self):
        # There are far more isomorphisms than are listed anywhere, and the least one is told.
        self.assertEqual(pair_paper(LEFT_ZERO_24, LEFT_ZERO_24), ("isomorphic", tuple(range(24))))
        other = relabeled(NULL_24, (1, 0, *range(2, 24)))
        self.assertEqual(pair_paper(NULL_24, other), ("isomorphic", (1, 0, *range(2, 24))))
        self.assertEqual(pair_paper(cyclic_group(3), relabeled(cyclic_group(3), (2, 1, 0)))[1], (2, 0, 1))

    def test_examples(self):
        self.assertEqual(pair_paper(ONE, CYCLIC_24), ("sizes",))
        self.assertEqual(pair_paper(left_zero(2), right_zero(2)), ("unlike", (0, 1), 4, 2))
        self.assertEqual(pair_paper(cyclic_group(2), left_zero(2)), ("unlike", (0, 0), 1, 2))
        self.assertEqual(pair_paper(CYCLIC_24, SYMMETRIC_GROUP_4)[0], "unlike")
        self.assertEqual(pair_paper(ONE, ONE), ("isomorphic", (0,)))

    def test_many(self):
        sixteen = Semigroup(SIXTEEN_TWOS)
        self.assertEqual(error_of(pair_paper, NULL_24, CYCLIC_24), MANY)
        self.assertEqual(error_of(pair_paper, LEFT_ZERO_24, NULL_24), MANY)
        self.assertEqual(error_of(pair_paper, sixteen, cyclic_group(16)), MANY)
        self.assertEqual(error_of(pair_paper, layered(6, lambda x, y: 0 if x < y else None, 1), null_semigroup(8)), MANY)
        # Sizes come first, and isomorphic ones need no numbers.
        self.assertIsNone(error_of(pair_paper, NULL_24, null_semigroup(23)))
        self.assertIsNone(error_of(pair_paper, NULL_24, NULL_24))
        self.assertIsNone(error_of(pair_paper, sixteen, sixteen))


class Joins(unittest.TestCase):
    def check(self, s, pairs, x, y):
        paper = join_paper(s, pairs, x, y)
        self.assertIs(takes_join(s, pairs, x, y, paper), True)
        least = generated(s, pairs)
        self.assertEqual(paper[0], "chain" if least[x] == least[y] else "apart")
        return paper

    def test_small_ones(self):
        for s in SMALL:
            every = list(product(range(s.n), repeat=2))
            for x, y in every:
                for pairs in ([], ((0, s.n - 1),), [(s.n - 1, s.n // 2), (0, 0)], [(x, y)], ((y, x), (x, y))):
                    paper = self.check(s, pairs, x, y)
                    self.assertIs(right_join(s, pairs, x, y, paper), True)

    def test_larger_ones(self):
        for s in LARGER + MIDDLE:
            for pairs in ([(0, s.n - 1)], ((1, s.n // 2), (0, 2)), [], [(s.n - 1, s.n - 2)]):
                for x, y in ((0, 0), (0, s.n - 1), (1, 2), (s.n // 2, s.n // 3), (s.n - 1, 0)):
                    self.check(s, pairs, x, y)

    def test_examples(self):
        s = cyclic_group(4)
        self.assertEqual(join_paper(s, [], 2, 2), ("chain", ()))
        self.assertEqual(join_paper(s, [(0, 2)], 1, 1), ("chain", ()))
        self.assertEqual(len(join_paper(s, [(0, 2)], 1, 3)[1]), 1)
        self.assertEqual(join_paper(s, [(0, 2)], 1, 2)[0], "apart")
        self.assertEqual(join_paper(s, [], 1, 2)[0], "apart")
        self.assertEqual(join_paper(ONE, [(0, 0)] * 3, 0, 0), ("chain", ()))
        pairs = [(0, 2)] * 100000
        self.check(s, pairs, 1, 3)
        self.check(s, pairs, 1, 2)

    def test_malformed(self):
        s = cyclic_group(2)
        for wrong in odd_values():
            if not (isinstance(wrong, (list, tuple)) and all(self.is_pair(item) for item in wrong)):
                self.assertEqual(error_of(join_paper, s, wrong, 0, 0), MALFORMED)
            if not (is_number(wrong) and 0 <= wrong < 2):
                self.assertEqual(error_of(join_paper, s, [], wrong, 0), MALFORMED)
                self.assertEqual(error_of(join_paper, s, [], 0, wrong), MALFORMED)
                self.assertEqual(error_of(join_paper, s, [(0, wrong)], 0, 0), MALFORMED)
        for wrong in ([[0, 1]], [(0, 1, 0)], [(0,)], [(0, 2)], [(0, True)], {(0, 1)}, [(0, 1), None]):
            self.assertEqual(error_of(join_paper, s, wrong, 0, 1), MALFORMED)
        self.assertEqual(error_of(join_paper, s, [(0, 1)], True, 0), MALFORMED)

    def is_pair(self, item):
        return isinstance(item, tuple) and len(item) == 2 and all(is_number(x) and 0 <= x < 2 for x in item)


class OneSemigroup(unittest.TestCase):
    def test_kinds(self):
        for s in SAMPLES + MIDDLE:
            paper = rees_paper(s)
            self.assertIs(takes_rees(s, paper), True)
            self.assertIs(right_rees(s, paper), True)
            self.assertIs(paper[0] == "rees", self.is_simple_or_zero_simple(s))

    def is_simple_or_zero_simple(self, s):
        every, t = range(s.n), s.table
        ideals = []
        for x in every:
            left = {x} | {t[y][x] for y in every}
            ideals.append(left | {t[y][z] for y in left for z in every})
        zeros = [z for z in every if all(t[z][x] == z == t[x][z] for x in every)]
        if all(len(ideal) == s.n for ideal in ideals):
            return True
        if not zeros or all(t[x][y] == zeros[0] for x in every for y in every):
            return False
        return all(len(ideals[x]) == s.n for x in every if x != zeros[0])

    def test_kinds_of_examples(self):
        told = [
            (ONE, "rees"), (CYCLIC_24, "rees"), (BAND_24, "rees"), (BRANDT_4, "rees"), (GROUP_WITH_ZERO, "rees"),
            (NULL_24, "null"), (null_semigroup(2), "null"), (CHAIN_24, "ideal"), (MONOGENIC_24, "ideal"),
            (ALL_MAPS_OF_2, "ideal"),
            (with_zero(ONE), "rees"), (with_zero(null_semigroup(2)), "ideal"), (with_zero(brandt(2)), "ideal"),
        ]
        for s, kind in told:
            self.assertEqual(rees_paper(s)[0], kind)
        self.assertEqual(rees_paper(relabeled(NULL_24, (*range(1, 24), 0))), ("null", 1))

    def test_inverses(self):
        for s in SAMPLES + MIDDLE:
            paper = inverse_paper(s)
            self.assertIs(takes_inverse(s, paper), True)
            self.assertIs(right_inverse(s, paper), True)
            t, every = s.table, range(s.n)
            many = [sum(t[t[x][y]][x] == x and t[t[y][x]][y] == y for y in every) for x in every]
            self.assertIs(paper[0] == "inverse", all(number == 1 for number in many))
        self.assertEqual(inverse_paper(CYCLIC_24), ("inverse", (0, *range(23, 0, -1))))
        self.assertEqual(inverse_paper(NULL_24)[0], "not")
        self.assertEqual(inverse_paper(LEFT_ZERO_24)[0], "apart")
        self.assertEqual(inverse_paper(ONE), ("inverse", (0,)))

    def test_identities(self):
        for s in SMALL + MIDDLE[:8]:
            for left, right in product(WORDS, repeat=2):
                paper = identity_paper(s, left, right)
                self.assertIs(takes_identity(s, left, right, paper), True)
                if s.n < 3:
                    self.assertIs(right_identity(s, left, right, paper), True)
        for s in LARGER:
            for left, right in (("xy", "yx"), ("xyzxyzxyzxyz", "zyxzyxzyxzyx"), ("xxxxxxxxxxxx", "x")):
                self.assertIs(takes_identity(s, left, right, identity_paper(s, left, right)), True)
        self.assertEqual(identity_paper(left_zero(2), "xyz", "x"), ("holds",))
        self.assertEqual(identity_paper(left_zero(2), "xy", "yx")[0], "fails")

    def test_opposites(self):
        for s in SAMPLES:
            self.assertEqual(rees_paper(s)[0], rees_paper(opposite(s))[0])
            self.assertEqual(inverse_paper(s)[0] == "inverse", inverse_paper(opposite(s))[0] == "inverse")
