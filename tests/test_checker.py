import ast
import unittest
from itertools import product
from pathlib import Path

from reesblocks.build import (
    brandt, cyclic_group, direct_product, left_zero, monogenic, null_semigroup, opposite, rectangular_band, relabeled,
    right_zero, with_unit, with_zero,
)
from reesblocks.checker import takes_identity, takes_inverse, takes_join, takes_pair, takes_rees
from reesblocks.congruence import generated
from reesblocks.papers import identity_paper, inverse_paper, join_paper, pair_paper, rees_paper
from reesblocks.rees import Rees
from reesblocks.semigroup import Semigroup
from samples import (
    ALL_MAPS_OF_2, BAND_24, BRANDT_4, CHAIN_24, CYCLIC_24, GROUP_WITH_ZERO, KINDS, LARGER, LEFT_ZERO_24, NULL_24, SMALL,
    SYMMETRIC_GROUP_4, WORDS, changed, equivalences, is_associative, is_number, odd_values, plain,
)
from test_words import first_failing, value

ONE = Semigroup([[0]])
# Making some of them takes long.
ODD_VALUES = odd_values()
EQUIVALENCES = {n: equivalences(n) for n in range(1, 5)}
CHAPTERS_2_TO_7 = {
    "build", "maps", "green", "factors", "groups", "rees", "congruence", "lattice", "homs", "inverse", "words",
}


# What the document says of papers, worked out without the program.

def begins(paper, kind, many):
    return isinstance(paper, tuple) and len(paper) == many and isinstance(paper[0], str) and paper[0] == kind


def elements(s, items, many):
    return isinstance(items, tuple) and len(items) == many and all(is_number(x) and 0 <= x < s.n for x in items)


def is_congruence(s, classes):
    if not elements(s, classes, s.n) or classes not in EQUIVALENCES[s.n]:
        return False
    every = [(x, y) for x, y in product(range(s.n), repeat=2) if classes[x] == classes[y]]
    return all(classes[s.table[x][u]] == classes[s.table[y][v]] for x, y in every for u, v in every)


def count(s, classes, target):
    """The number of homomorphisms of the quotient, as maps of the classes."""
    firsts = sorted(set(classes))
    many = 0
    for images in product(range(target.n), repeat=len(firsts)):
        told = {first: image for first, image in zip(firsts, images)}
        many += all(
            told[classes[s.table[x][y]]] == target.table[told[x]][told[y]] for x, y in product(firsts, repeat=2)
        )
    return many


def same_products(table, other, images):
    every = range(len(table))
    return all(images[table[x][y]] == other[images[x]][images[y]] for x in every for y in every)


def right_pair(a, b, paper):
    if begins(paper, "isomorphic", 2):
        images = paper[1]
        return elements(b, images, a.n) and sorted(images) == list(range(b.n)) and same_products(a.table, b.table, images)
    if begins(paper, "unlike", 4):
        classes, m, k = paper[1:]
        if a.n != b.n or not is_congruence(a, classes) or not is_number(m) or not is_number(k):
            return False
        return m != k and m == count(a, classes, a) and k == count(a, classes, b)
    return begins(paper, "sizes", 1) and a.n != b.n


def right_join(s, pairs, x, y, paper):
    if begins(paper, "chain", 2) and isinstance(paper[1], tuple):
        at = x
        for step in paper[1]:
            if not isinstance(step, tuple) or len(step) != 4 or not all(is_number(item) for item in step):
                return False
            left, k, right, turned = step
            if not (-1 <= left < s.n and -1 <= right < s.n and 0 <= k < len(pairs) and turned in (0, 1)):
                return False
            ends = []
            for z in pairs[k]:
                z = z if left == -1 else s.table[left][z]
                ends.append(z if right == -1 else s.table[z][right])
            one, other = ends if turned == 0 else ends[::-1]
            if one != at:
                return False
            at = other
        return at == y
    if begins(paper, "apart", 2) and is_congruence(s, paper[1]):
        classes = paper[1]
        return all(classes[a] == classes[b] for a, b in pairs) and classes[x] != classes[y]
    return False


def is_list(value):
    return isinstance(value, (list, tuple))


def rees_rows(zero, group, matrix):
    """The table of the Rees matrix semigroup of data, or None if these are no data with a regular matrix."""
    if zero is not True and zero is not False or not is_list(group) or not is_list(matrix):
        return None
    if not all(is_list(row) for row in group) or not all(is_list(row) for row in matrix):
        return None
    m = len(group)
    if m == 0 or m > 24 or not all(len(row) == m and all(is_number(g) and 0 <= g < m for g in row) for row in group):
        return None
    if not all(group[0][g] == g == group[g][0] and 0 in group[g] for g in range(m)) or not is_associative(group):
        return None
    if not matrix or not len(matrix[0]) or not all(len(row) == len(matrix[0]) for row in matrix):
        return None
    if not all(is_number(p) and (0 <= p < m or zero and p == -1) for row in matrix for p in row):
        return None
    if any(set(row) == {-1} for row in matrix) or any(set(column) == {-1} for column in zip(*matrix)):
        return None
    triples = list(product(range(len(matrix[0])), range(m), range(len(matrix))))
    numbers = {triple: number for number, triple in enumerate(triples)}
    every = triples + [None] if zero else triples

    def times(one, other):
        if one is None or other is None or matrix[one[2]][other[0]] == -1:
            return len(triples)
        i, g, k = one
        j, h, end = other
        return numbers[(i, group[group[g][matrix[k][j]]][h], end)]

    return [[times(one, other) for other in every] for one in every]


def right_rees(s, paper):
    t, every = s.table, range(s.n)
    if begins(paper, "rees", 5):
        rows = rees_rows(*paper[1:4])
        images = paper[4]
        if rows is None or len(rows) != s.n:
            return False
        return elements(s, images, s.n) and sorted(images) == list(every) and same_products(t, rows, images)
    if begins(paper, "ideal", 2):
        subset = paper[1]
        if not isinstance(subset, tuple) or not elements(s, subset, len(subset)) or not 0 < len(subset) < s.n:
            return False
        if subset != tuple(sorted(set(subset))):
            return False
        if len(subset) == 1 and all(t[subset[0]][x] == subset[0] == t[x][subset[0]] for x in every):
            return False
        return all(t[x][y] in subset and t[y][x] in subset for x in subset for y in every)
    if begins(paper, "null", 2):
        return s.n > 1 and elements(s, paper[1:], 1) and all(t[x][y] == paper[1] for x in every for y in every)
    return False


def right_inverse(s, paper):
    t, every = s.table, range(s.n)
    idempotents = [e for e in every if t[e][e] == e]
    if begins(paper, "inverse", 2) and elements(s, paper[1], s.n):
        pairs = list(enumerate(paper[1]))
        fit = all(t[t[x][y]][x] == x and t[t[y][x]][y] == y for x, y in pairs)
        return fit and all(t[e][f] == t[f][e] for e in idempotents for f in idempotents)
    if begins(paper, "not", 2) and elements(s, paper[1:], 1):
        return all(t[t[paper[1]][y]][paper[1]] != paper[1] for y in every)
    if begins(paper, "apart", 3) and elements(s, paper[1:], 2):
        e, f = paper[1:]
        return e in idempotents and f in idempotents and t[e][f] != t[f][e]
    return False


def right_identity(s, left, right, paper):
    if begins(paper, "fails", 2) and elements(s, paper[1], 3):
        return value(s, left, paper[1]) != value(s, right, paper[1])
    return begins(paper, "holds", 1) and first_failing(s, left, right) is None


MIDDLE = [
    Semigroup([[0, 0, 0, 0], [0, 1, 0, 3], [0, 0, 2, 0], [0, 3, 0, 1]]), cyclic_group(4), rectangular_band(2, 2),
    ALL_MAPS_OF_2,
    direct_product(cyclic_group(2), cyclic_group(2)), null_semigroup(4), with_zero(cyclic_group(3)), monogenic(3, 2),
]


class Checking(unittest.TestCase):
    def check(self, takes, right, arguments, papers):
        for paper in papers:
            found = takes(*arguments, paper)
            # The paper is shown only if something is wrong: some cannot be written.
            if found is not right(*arguments, paper):
                self.fail(f"{takes.__name__}, {[str(argument) for argument in arguments]}, {paper}: {found}")

    def every_change(self, paper):
        yield paper
        yield from changed(paper)
        yield from ODD_VALUES
        for kind in KINDS:
            yield from ((kind,), (kind, *paper[1:]), kind, [kind], (kind, ()), (kind, None), (kind, paper[1:]))


class Pairs(Checking):
    def test_changed_papers(self):
        some = [s for s in SMALL if s.n < 3] + SMALL[9::6] + MIDDLE[:1]
        for a, b in product(some, repeat=2):
            if max(a.n, b.n) < 4 or a.n == b.n == 4:
                self.check(takes_pair, right_pair, (a, b), self.every_change(pair_paper(a, b)))

    def test_renamed(self):
        for s in SMALL[9::9] + MIDDLE:
            other = relabeled(s, (*range(1, s.n), 0))
            if s.n < 5:
                self.check(takes_pair, right_pair, (s, other), self.every_change(pair_paper(s, other)))

    def test_all_congruences(self):
        # For each congruence the numbers of both are told, and are right only if they are unlike.
        for a, b in product(SMALL[9::20], repeat=2):
            for classes in EQUIVALENCES[3]:
                m, k = count(a, classes, a), count(a, classes, b)
                self.check(takes_pair, right_pair, (a, b), [
                    ("unlike", classes, m, k), ("unlike", classes, k, m), ("unlike", classes, m + 1, k),
                    ("unlike", classes, m, k + 1), ("unlike", classes, m, m), ("unlike", list(classes), m, k),
                ])

    def test_kinds(self):
        a, b = left_zero(2), right_zero(2)
        self.assertIs(takes_pair(a, b, ("unlike", (0, 1), 4, 2)), True)
        self.assertIs(takes_pair(a, a, ("unlike", (0, 1), 4, 4)), False)
        self.assertIs(takes_pair(a, b, ("unlike", (0, 0), 2, 2)), False)
        self.assertIs(takes_pair(ONE, ONE, ("isomorphic", (0,))), True)
        self.assertIs(takes_pair(ONE, ONE, ("isomorphic", (False,))), False)
        self.assertIs(takes_pair(ONE, ONE, ("isomorphic", [0])), False)
        self.assertIs(takes_pair(ONE, a, ("sizes",)), True)
        self.assertIs(takes_pair(ONE, a, ("unlike", (0,), 1, 2)), False)
        self.assertIs(takes_pair(ONE, a, ("isomorphic", (0,))), False)
        self.assertIs(takes_pair(a, ONE, ("isomorphic", (0, 0))), False)
        self.assertIs(takes_pair(a, b, ("sizes",)), False)
        self.assertIs(takes_pair(cyclic_group(2), null_semigroup(2), ("unlike", (0, 0), 1, True)), False)
        self.assertIs(takes_pair(cyclic_group(2), left_zero(2), ("unlike", (0, 0), 1, 2)), True)
        self.assertIs(takes_pair(cyclic_group(2), left_zero(2), ("unlike", (0, 0), True, 2)), False)
        self.assertIs(takes_pair(cyclic_group(2), left_zero(2), ("unlike", (0, False), 1, 2)), False)

    def test_large_numbers(self):
        # Left zeros go anywhere to left zeros: there are 24 ^ 24 maps, far too many for going through them.
        every = tuple(range(24))
        self.assertIs(takes_pair(LEFT_ZERO_24, NULL_24, ("unlike", every, 24 ** 24, 1)), True)
        many = 24 ** 24
        for m, k in ((many - 1, 1), (many + 1, 1), (many, 2), (many, 0), (1, many), (10 ** 5000, 1), (5, 1)):
            self.assertIs(takes_pair(LEFT_ZERO_24, NULL_24, ("unlike", every, m, k)), False)
        self.assertIs(takes_pair(NULL_24, LEFT_ZERO_24, ("unlike", every, 24 ** 23, 24)), True)
        self.assertIs(takes_pair(NULL_24, LEFT_ZERO_24, ("unlike", (0,) * 24, 1, 24)), True)
        self.assertIs(takes_pair(NULL_24, LEFT_ZERO_24, ("unlike", (0,) * 24, 1, 1)), False)
        self.assertIs(takes_pair(BAND_24, LEFT_ZERO_24, ("unlike", every, 6 ** 6 * 4 ** 4, 24 ** 6)), True)
        # Chains: the number of ascending maps, a binomial coefficient.
        self.assertIs(takes_pair(CHAIN_24, CYCLIC_24, ("unlike", every, 16123801841550, 1)), True)
        self.assertIs(takes_pair(CHAIN_24, CYCLIC_24, ("unlike", every, 16123801841551, 1)), False)
        self.assertIs(takes_pair(CYCLIC_24, SYMMETRIC_GROUP_4, pair_paper(CYCLIC_24, SYMMETRIC_GROUP_4)), True)


class Joins(Checking):
    def test_changed_papers(self):
        some = [s for s in SMALL if s.n < 3] + SMALL[9::8] + MIDDLE[:3]
        for s in some:
            every = list(product(range(s.n), repeat=2))
            for x, y in every[::2]:
                for pairs in ([], ((0, s.n - 1),), [(s.n - 1, s.n // 2), (0, 0)]):
                    papers = self.every_change(join_paper(s, pairs, x, y))
                    self.check(takes_join, right_join, (s, pairs, x, y), papers)

    def test_all_steps(self):
        numbers = (-2, -1, 0, 1, 2)
        for s in (null_semigroup(2), cyclic_group(2), left_zero(2), right_zero(2)):
            pairs = [(0, 1), (1, 0)]
            for left, k, right, turned in product(numbers, repeat=4):
                for x, y in product(range(2), repeat=2):
                    self.check(takes_join, right_join, (s, pairs, x, y), [("chain", ((left, k, right, turned),))])

    def test_chains(self):
        s = cyclic_group(4)
        self.assertIs(takes_join(s, [], 1, 1, ("chain", ())), True)
        self.assertIs(takes_join(s, [], 1, 2, ("chain", ())), False)
        self.assertIs(takes_join(s, [], 1, 1, ("chain", [])), False)
        self.assertIs(takes_join(s, [(0, 2)], 1, 3, ("chain", ((1, 0, -1, 0),))), True)
        self.assertIs(takes_join(s, [(0, 2)], 3, 1, ("chain", ((1, 0, -1, 0),))), False)
        self.assertIs(takes_join(s, [(0, 2)], 3, 1, ("chain", ((1, 0, -1, 1),))), True)
        self.assertIs(takes_join(s, [(0, 2)], 3, 1, ("chain", ((-1, 0, 1, True),))), False)
        self.assertIs(takes_join(s, [(0, 2)], 3, 1, ("chain", ((-1, False, 1, 1),))), False)
        self.assertIs(takes_join(s, [(0, 2)], 0, 2, ("chain", ((-1, 0, -1, 0),))), True)
        self.assertIs(takes_join(s, [(0, 2)], 0, 2, ("chain", ((-1, -1, -1, 0),))), False)
        self.assertIs(takes_join(s, [(0, 2)], 0, 2, ("chain", ((-1, 1, -1, 0),))), False)
        self.assertIs(takes_join(s, [(0, 2)], 0, 2, ("chain", [(-1, 0, -1, 0)])), False)
        self.assertIs(takes_join(s, [(0, 2)], 0, 2, ("chain", ([-1, 0, -1, 0],))), False)
        self.assertIs(takes_join(s, [(0, 2)], 0, 2, ("chain", ((4, 0, -1, 0),))), False)
        self.assertIs(takes_join(s, [(0, 2)], 0, 1, ("apart", (0, 1, 0, 1))), True)
        self.assertIs(takes_join(s, [(0, 2)], 0, 1, ("apart", (0, 1, 2, 3))), False)
        self.assertIs(takes_join(s, [(0, 2)], 0, 1, ("apart", (0, 0, 0, 0))), False)
        # An equivalence that is no congruence shows nothing.
        self.assertIs(takes_join(s, [(0, 1)], 0, 2, ("apart", (0, 0, 2, 2))), False)

    def test_long_chains(self):
        s = cyclic_group(2)
        steps = ((-1, 0, -1, 0), (-1, 0, -1, 1)) * 50000
        self.assertIs(takes_join(s, ((0, 1),), 0, 0, ("chain", steps)), True)
        self.assertIs(takes_join(s, ((0, 1),), 0, 1, ("chain", steps)), False)
        self.assertIs(takes_join(s, ((0, 1),), 0, 1, ("chain", steps[1:])), False)
        self.assertIs(takes_join(s, ((0, 1),), 1, 0, ("chain", steps[1:])), True)

    def test_never_both(self):
        for s in SMALL[::6]:
            for pairs in ([(0, s.n - 1)], [(s.n // 2, 0)], []):
                least = generated(s, pairs)
                fit = [classes for classes in EQUIVALENCES[s.n] if is_congruence(s, classes)]
                for x, y in product(range(s.n), repeat=2):
                    apart = [takes_join(s, pairs, x, y, ("apart", classes)) for classes in fit]
                    self.assertIs(any(apart), least[x] != least[y])


class ReesPapers(Checking):
    def test_changed_papers(self):
        for s in [s for s in SMALL if s.n < 3] + SMALL[9::6] + MIDDLE:
            self.check(takes_rees, right_rees, (s,), self.every_change(rees_paper(s)))

    def test_lists(self):
        for s in (rectangular_band(2, 3), cyclic_group(3), brandt(2), GROUP_WITH_ZERO, with_zero(left_zero(3)), ONE):
            kind, zero, group, matrix, coordinates = rees_paper(s)
            rows, lines = [list(row) for row in group], [list(row) for row in matrix]
            for some in (group, rows, tuple(rows), list(group)):
                for more in (matrix, lines, tuple(lines), list(matrix)):
                    self.assertIs(takes_rees(s, (kind, zero, some, more, coordinates)), True)
            self.assertIs(takes_rees(s, (kind, zero, group, matrix, list(coordinates))), False)
            self.assertIs(takes_rees(s, [kind, zero, group, matrix, coordinates]), False)
            self.assertIs(takes_rees(s, (kind, int(zero), group, matrix, coordinates)), False)
            self.assertIs(takes_rees(s, (kind, not zero, group, matrix, coordinates)), False)
            papers = changed((kind, zero, rows, lines, coordinates))
            self.check(takes_rees, right_rees, (s,), papers)

    def test_other_data(self):
        # Other data are right as well, if they have coordinates of their own.
        for data in (
            Rees(True, ((0, 1), (1, 0)), ((1, 1), (0, -1))), Rees(False, ((0, 1), (1, 0)), ((1, 0), (0, 0))),
            Rees(True, ((0,),), ((0, -1, 0), (-1, 0, 0))), Rees(False, ((0, 1, 2), (1, 2, 0), (2, 0, 1)), ((1, 2),)),
        ):
            s = data.semigroup()
            paper = ("rees", data.zero, data.group, data.matrix, tuple(range(s.n)))
            self.assertIs(takes_rees(s, paper), True)
            self.assertIs(right_rees(s, paper), True)
            self.check(takes_rees, right_rees, (s,), changed(paper))

    def test_refused_data(self):
        # Here all products fit, but the matrices are not regular, or the data have no form.
        null = null_semigroup(3)
        shifted = relabeled(null, (2, 0, 1))
        self.assertIs(takes_rees(shifted, ("rees", True, ((0,),), ((-1,), (-1,)), (0, 1, 2))), False)
        self.assertIs(takes_rees(shifted, ("rees", True, ((0,),), ((-1, -1),), (0, 1, 2))), False)
        self.assertIs(takes_rees(with_zero(ONE), ("rees", True, ((0,),), ((0,),), (0, 1))), True)
        self.assertIs(takes_rees(with_zero(ONE), ("rees", True, ((False,),), ((0,),), (0, 1))), False)
        self.assertIs(takes_rees(with_zero(ONE), ("rees", True, ((0,),), ((False,),), (0, 1))), False)
        self.assertIs(takes_rees(with_zero(ONE), ("rees", True, ((0,),), ((0,),), (0, True))), False)
        # A group whose unit is 1, and a table that is no group.
        self.assertIs(takes_rees(cyclic_group(2), ("rees", False, ((1, 0), (0, 1)), ((1,),), (0, 1))), False)
        self.assertIs(takes_rees(with_zero(ONE), ("rees", False, ((0, 1), (1, 1)), ((0,),), (0, 1))), False)
        self.assertIs(takes_rees(ONE, ("rees", False, (), ((0,),), (0,))), False)
        self.assertIs(takes_rees(ONE, ("rees", False, ((0,),), (), (0,))), False)
        self.assertIs(takes_rees(ONE, ("rees", False, ((0,),), ((),), (0,))), False)

    def test_huge_data(self):
        huge = [[0] * 3000] * 3000
        for s in (ONE, CYCLIC_24):
            for paper in (
                ("rees", False, huge, ((0,),), (0,)), ("rees", False, ((0,),), huge, (0,)),
                ("rees", True, huge, huge, huge),
                ("ideal", tuple(range(10 ** 6))), ("rees", False, ((0,),), ((0,),), tuple(range(10 ** 6))),
            ):
                self.assertIs(takes_rees(s, paper), False)

    def test_ideals(self):
        self.assertIs(takes_rees(CHAIN_24, ("ideal", (0, 1))), True)
        self.assertIs(takes_rees(CHAIN_24, ("ideal", (0,))), False)
        self.assertIs(takes_rees(CHAIN_24, ("ideal", ())), False)
        self.assertIs(takes_rees(CHAIN_24, ("ideal", tuple(range(24)))), False)
        self.assertIs(takes_rees(CHAIN_24, ("ideal", tuple(range(23)))), True)
        self.assertIs(takes_rees(CHAIN_24, ("ideal", (1, 0))), False)
        self.assertIs(takes_rees(CHAIN_24, ("ideal", [0, 1])), False)
        self.assertIs(takes_rees(CHAIN_24, ("ideal", (0, True))), False)
        self.assertIs(takes_rees(CHAIN_24, ("ideal", (0, 2))), False)
        self.assertIs(takes_rees(with_unit(cyclic_group(2)), ("ideal", (0, 1))), True)
        self.assertIs(takes_rees(ONE, ("ideal", (0,))), False)
        self.assertIs(takes_rees(ONE, ("null", 0)), False)
        self.assertIs(takes_rees(null_semigroup(2), ("null", 0)), True)
        self.assertIs(takes_rees(null_semigroup(2), ("null", False)), False)
        self.assertIs(takes_rees(null_semigroup(2), ("null", 1)), False)
        self.assertIs(takes_rees(relabeled(NULL_24, (*range(1, 24), 0)), ("null", 1)), True)

    def test_never_both(self):
        for s in SMALL + MIDDLE:
            kind = rees_paper(s)[0]
            subsets = [tuple(x for x in range(s.n) if bits >> x & 1) for bits in range(2 ** s.n)]
            others = [("ideal", subset) for subset in subsets] + [("null", z) for z in range(s.n)]
            self.assertIs(any(takes_rees(s, paper) for paper in others), kind != "rees")
            self.check(takes_rees, right_rees, (s,), others)


class Inverses(Checking):
    def test_changed_papers(self):
        for s in [s for s in SMALL if s.n < 3] + SMALL[9::6] + MIDDLE + [brandt(2), with_unit(left_zero(2))]:
            self.check(takes_inverse, right_inverse, (s,), self.every_change(inverse_paper(s)))

    def test_all_papers(self):
        for s in SMALL + MIDDLE[:3]:
            papers = [("inverse", images) for images in product(range(s.n), repeat=s.n)]
            papers += [("not", x) for x in range(-1, s.n + 1)]
            papers += [("apart", e, f) for e, f in product(range(-1, s.n + 1), repeat=2)]
            self.check(takes_inverse, right_inverse, (s,), papers)
            taken = {paper[0] for paper in papers if takes_inverse(s, paper)}
            self.assertIn(taken, ({"inverse"}, {"not"}, {"apart"}, {"not", "apart"}))

    def test_examples(self):
        self.assertIs(takes_inverse(CYCLIC_24, ("inverse", (0, *range(23, 0, -1)))), True)
        self.assertIs(takes_inverse(CYCLIC_24, ("inverse", (False, *range(23, 0, -1)))), False)
        self.assertIs(takes_inverse(CYCLIC_24, ("inverse", tuple(range(24)))), False)
        # Every element of a left zero semigroup is its own inverse, but idempotents do not commute.
        self.assertIs(takes_inverse(LEFT_ZERO_24, ("inverse", tuple(range(24)))), False)
        self.assertIs(takes_inverse(LEFT_ZERO_24, ("apart", 3, 4)), True)
        self.assertIs(takes_inverse(LEFT_ZERO_24, ("apart", 3, 3)), False)
        self.assertIs(takes_inverse(NULL_24, ("not", 5)), True)
        self.assertIs(takes_inverse(NULL_24, ("not", 0)), False)
        self.assertIs(takes_inverse(null_semigroup(2), ("not", True)), False)
        self.assertIs(takes_inverse(left_zero(2), ("apart", False, True)), False)
        self.assertIs(takes_inverse(ONE, ("inverse", (0,))), True)


class IdentityPapers(Checking):
    def test_changed_papers(self):
        for s in [s for s in SMALL if s.n < 3] + SMALL[9::13] + MIDDLE:
            for left, right in (("xy", "yx"), ("x", "xx"), ("xyz", "zyx"), ("x", "x"), ("xyx", "x")):
                papers = self.every_change(identity_paper(s, left, right))
                self.check(takes_identity, right_identity, (s, left, right), papers)

    def test_all_papers(self):
        for s in SMALL[::10]:
            for left, right in product(WORDS[:8], repeat=2):
                papers = [("holds",)] + [("fails", values) for values in product(range(s.n), repeat=3)]
                self.check(takes_identity, right_identity, (s, left, right), papers)

    def test_examples(self):
        s = left_zero(2)
        self.assertIs(takes_identity(s, "xy", "yx", ("fails", (0, 1, 0))), True)
        self.assertIs(takes_identity(s, "xy", "yx", ("fails", (0, 1, 1))), True)
        self.assertIs(takes_identity(s, "xy", "yx", ("fails", (0, 1, False))), False)
        self.assertIs(takes_identity(s, "xy", "yx", ("fails", (0, 1))), False)
        self.assertIs(takes_identity(s, "xy", "yx", ("fails", [0, 1, 0])), False)
        self.assertIs(takes_identity(s, "xy", "yx", ("fails", (0, 0, 0))), False)
        self.assertIs(takes_identity(s, "xy", "yx", ("holds",)), False)
        self.assertIs(takes_identity(s, "xy", "x", ("holds",)), True)
        self.assertIs(takes_identity(CYCLIC_24, "xyzxyzxyzxyz", "zzzzyyyyxxxx", ("holds",)), True)
        self.assertIs(takes_identity(SYMMETRIC_GROUP_4, "xyzxyzxyzxyz", "zzzzyyyyxxxx", ("holds",)), False)


class EveryValue(Checking):
    def test_odd_values(self):
        values = ODD_VALUES + [(value,) for value in ODD_VALUES]
        values += [(kind, value) for kind in KINDS for value in ODD_VALUES]
        values += [(kind, value, value) for kind in KINDS for value in ODD_VALUES]
        values += [(kind, value, value, value) for kind in ("unlike", "rees", "apart") for value in ODD_VALUES]
        values += [("rees", zero, x, x, x) for zero in (True, False, 1, None) for x in ODD_VALUES]
        for s in (ONE, null_semigroup(2), cyclic_group(3)):
            pairs, ends = ((0, 0),), (0, s.n - 1)
            self.check(takes_pair, right_pair, (s, s), values)
            self.check(takes_join, right_join, (s, pairs, *ends), values)
            self.check(takes_rees, right_rees, (s,), values)
            self.check(takes_inverse, right_inverse, (s,), values)
            self.check(takes_identity, right_identity, (s, "x", "xx"), values)
        for s in (CYCLIC_24, BRANDT_4):
            for paper in values:
                answers = [
                    takes_pair(s, s, paper), takes_join(s, ((0, 0),), 0, s.n - 1, paper), takes_rees(s, paper),
                    takes_inverse(s, paper),
                ]
                self.assertTrue(all(answer is True or answer is False for answer in answers))

    def test_arguments_stay(self):
        pairs = [(0, 2)]
        s = cyclic_group(4)
        matrix = [[0, 0], [0, 1]]
        paper = ("rees", False, [[0, 1], [1, 0]], matrix, (0, 1, 2, 3, 4, 5, 6, 7))
        data = Rees(False, [[0, 1], [1, 0]], matrix).semigroup()
        self.assertIs(takes_rees(data, paper), True)
        self.assertIs(takes_join(s, pairs, 1, 3, ("chain", ((1, 0, -1, 0),))), True)
        self.assertEqual((pairs, matrix, plain(paper[2])), ([(0, 2)], [[0, 0], [0, 1]], ((0, 1), (1, 0))))


class Larger(unittest.TestCase):
    def test_larger_ones(self):
        for s in LARGER:
            self.assertIs(takes_pair(s, s, ("isomorphic", tuple(range(s.n)))), True)
            self.assertIs(takes_pair(s, opposite(s), ("isomorphic", tuple(range(s.n)))), s == opposite(s))
            for paper in (rees_paper(s), inverse_paper(s)):
                wrong = (*paper[:-1], (True, *paper[-1][1:]) if isinstance(paper[-1], tuple) else None)
                self.assertIs(takes_rees(s, wrong), False)
                self.assertIs(takes_inverse(s, wrong), False)
            self.assertIs(takes_inverse(s, rees_paper(s)), False)
            self.assertIs(takes_rees(s, inverse_paper(s)), False)
        self.assertIs(takes_rees(BRANDT_4, rees_paper(BRANDT_4)), True)


class Independence(unittest.TestCase):
    def test_imports(self):
        # Nothing that the checker calls, at any remove, is in a file of the chapters 2 to 7.
        folder = Path(__file__).resolve().parent.parent / "reesblocks"
        waiting, known = ["checker"], set()
        while waiting:
            name = waiting.pop()
            if name not in known:
                known.add(name)
                tree = ast.parse((folder / (name + ".py")).read_text(encoding="utf-8"))
                waiting += [node.module.split(".")[1] for node in ast.walk(tree) if isinstance(node, ast.ImportFrom)]
        self.assertIn("semigroup", known)
        self.assertEqual(known & CHAPTERS_2_TO_7, set())
