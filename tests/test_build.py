import unittest
from itertools import combinations, product

from reesblocks.build import (
    brandt, cyclic_group, direct_product, left_zero, monogenic, null_semigroup, opposite, rectangular_band, relabeled,
    right_zero, semilattice, with_unit, with_zero,
)
from reesblocks.parts import index_and_period
from reesblocks.semigroup import Semigroup
from samples import (
    BRANDT_4, CHAIN_24, CYCLIC_24, LARGE, LARGER, MALFORMED, NULL_24, SAMPLES, SMALL, error_of, is_number, odd_values,
)

HUGE = 10 ** 5000
CYCLE = ("Refused", "cycle")
MEET = ("Refused", "meet")
ONE_SIZE = (null_semigroup, left_zero, right_zero, cyclic_group, brandt)
TWO_SIZES = (rectangular_band, monogenic)


class Named(unittest.TestCase):
    def test_one_size(self):
        for n in range(1, 25):
            for function, rule in (
                (null_semigroup, lambda x, y: 0), (left_zero, lambda x, y: x), (right_zero, lambda x, y: y),
                (cyclic_group, lambda x, y: (x + y) % n),
            ):
                s = function(n)
                self.assertEqual(s.n, n)
                for x, y in product(range(n), repeat=2):
                    self.assertEqual(s.table[x][y], rule(x, y))

    def test_rectangular_bands(self):
        for m, k in [(1, 1), (1, 5), (5, 1), (2, 3), (3, 2), (4, 6), (24, 1), (1, 24)]:
            s = rectangular_band(m, k)
            pairs = list(product(range(m), range(k)))
            self.assertEqual(s.n, m * k)
            for (i, j), (r, t) in product(pairs, repeat=2):
                self.assertEqual(s.table[i * k + j][r * k + t], i * k + t)

    def test_monogenic(self):
        for index in range(1, 25):
            for period in range(1, 26 - index):
                s = monogenic(index, period)
                n = index + period - 1
                self.assertEqual(s.n, n)
                # Each exponent from 1 on belongs to a number, counted step by step around the cycle.
                number = [None, 0]
                while len(number) < 2 * n + 2:
                    number.append(number[-1] + 1 if number[-1] + 1 < n else index - 1)
                for x, y in product(range(n), repeat=2):
                    self.assertEqual(s.table[x][y], number[x + 1 + y + 1])
                self.assertEqual(index_and_period(s, 0), (index, period))

    def test_brandt(self):
        for m in (1, 2, 3, 4):
            s = brandt(m)
            self.assertEqual(s.n, m * m + 1)
            self.assertEqual(s.zero(), m * m)
            pairs = list(product(range(m), repeat=2))
            for (i, j), (r, t) in product(pairs, repeat=2):
                self.assertEqual(s.table[i * m + j][r * m + t], i * m + t if j == r else m * m)
        self.assertEqual(brandt(1), Semigroup([[0, 1], [1, 1]]))

    def test_large(self):
        for function in ONE_SIZE[:4]:
            self.assertIsNone(error_of(function, 24))
            self.assertEqual(error_of(function, 25), LARGE)
        self.assertEqual(error_of(brandt, 5), LARGE)
        self.assertIsNone(error_of(rectangular_band, 4, 6))
        self.assertIsNone(error_of(monogenic, 24, 1))
        self.assertIsNone(error_of(monogenic, 1, 24))
        for sizes in ((5, 5), (25, 1), (1, 25), (HUGE, HUGE), (1, HUGE), (HUGE, 1)):
            for function in TWO_SIZES:
                if function is rectangular_band or sum(sizes) > 25:
                    self.assertEqual(error_of(function, *sizes), LARGE)
        self.assertEqual(error_of(monogenic, 13, 13), LARGE)
        self.assertIsNone(error_of(monogenic, 12, 13))
        for function in ONE_SIZE:
            self.assertEqual(error_of(function, HUGE), LARGE)

    def test_malformed_before_large(self):
        for value in (0, -1, -HUGE, True, False, None, "1", [1], (1,)):
            for function in ONE_SIZE:
                self.assertEqual(error_of(function, value), MALFORMED)
            for function in TWO_SIZES:
                for other in (1, 2, 24, 25, HUGE):
                    self.assertEqual(error_of(function, value, other), MALFORMED)
                    self.assertEqual(error_of(function, other, value), MALFORMED)

    def test_every_value(self):
        for value in odd_values():
            right = is_number(value) and value >= 1
            for function in ONE_SIZE:
                large = right and value > (4 if function is brandt else 24)
                wanted = (LARGE if large else None) if right else MALFORMED
                self.assertEqual(error_of(function, value), wanted)
            for function in TWO_SIZES:
                if not right:
                    self.assertEqual(error_of(function, value, 1), MALFORMED)
                    self.assertEqual(error_of(function, 1, value), MALFORMED)


class Semilattices(unittest.TestCase):
    def expected(self, n, pairs):
        """The table or the error by the definition: the closure, its cycles, then the greatest common lower ones."""
        below = set(pairs)
        while True:
            more = below | {(x, w) for (x, y) in below for (z, w) in below if y == z}
            if more == below:
                break
            below = more
        if any(x == y for x, y in below):
            return CYCLE
        table = []
        for x in range(n):
            table.append([])
            for y in range(n):
                lower = [z for z in range(n) if (z == x or (z, x) in below) and (z == y or (z, y) in below)]
                greatest = [g for g in lower if all(z == g or (z, g) in below for z in lower)]
                if not greatest:
                    return MEET
                table[x].append(greatest[0])
        return Semigroup(table)

    def check(self, n, pairs):
        wanted = self.expected(n, pairs)
        if isinstance(wanted, Semigroup):
            self.assertEqual(semilattice(n, pairs), wanted)
        else:
            self.assertEqual(error_of(semilattice, n, pairs), wanted)

    def test_all_of_three(self):
        everything = list(product(range(3), repeat=2))
        for many in range(5):
            for pairs in combinations(everything, many):
                self.check(3, pairs)
                self.check(3, list(pairs)[::-1] + list(pairs))

    def test_some_of_five(self):
        chosen = [(0, 1), (1, 2), (0, 3), (3, 2), (2, 4), (0, 4), (4, 1), (3, 4)]
        for many in range(len(chosen) + 1):
            for pairs in combinations(chosen, many):
                self.check(5, pairs)

    def test_by_example(self):
        self.assertEqual(semilattice(1, []), Semigroup([[0]]))
        self.assertEqual(semilattice(24, [(k, k + 1) for k in range(23)]), CHAIN_24)
        self.assertEqual(semilattice(24, tuple((k, k + 1) for k in reversed(range(23)))), CHAIN_24)
        diamond = semilattice(4, [(0, 1), (0, 2), (1, 3), (2, 3)])
        self.assertEqual(diamond.table, ((0, 0, 0, 0), (0, 1, 0, 1), (0, 0, 2, 2), (0, 1, 2, 3)))
        star = semilattice(24, [(23, k) for k in range(23)])
        self.assertEqual((star.multiply(3, 7), star.zero(), star.idempotents()), (23, 23, tuple(range(24))))

    def test_refused(self):
        self.assertEqual(error_of(semilattice, 1, [(0, 0)]), CYCLE)
        self.assertEqual(error_of(semilattice, 2, []), MEET)
        self.assertEqual(error_of(semilattice, 3, [(0, 1), (1, 2), (2, 0)]), CYCLE)
        self.assertEqual(error_of(semilattice, 4, [(0, 1), (1, 0)]), CYCLE)
        self.assertEqual(error_of(semilattice, 5, [(0, 2), (0, 3), (1, 2), (1, 3), (4, 0), (4, 1)]), MEET)
        self.assertEqual(error_of(semilattice, 25, []), LARGE)
        self.assertEqual(error_of(semilattice, HUGE, []), LARGE)

    def test_every_value_of_the_size(self):
        for value in odd_values():
            if not is_number(value) or value < 1:
                self.assertEqual(error_of(semilattice, value, []), MALFORMED)
            elif value > 24:
                self.assertEqual(error_of(semilattice, value, []), LARGE)
            else:
                self.check(value, [])

    def test_order_of_the_errors(self):
        for n in (0, -1, True, None, "2"):
            self.assertEqual(error_of(semilattice, n, "x"), MALFORMED)
            self.assertEqual(error_of(semilattice, n, [(0, 0)]), MALFORMED)
        for value in odd_values():
            self.assertEqual(error_of(semilattice, 25, value), LARGE)
        self.assertEqual(error_of(semilattice, 2, [(0, 0), (0, 2)]), MALFORMED)
        self.assertEqual(error_of(semilattice, 4, [(0, 0)]), CYCLE)

    def test_malformed_pairs(self):
        wrong = [
            None, 0, True, "01", "", [[0, 1]], [(0,)], [(0, 1, 1)], [(0, 2)], [(2, 0)], [(-1, 0)], [(0, -1)], [()],
            [(0, True)], [(False, 1)], [(0, "1")], [(0, None)], [(0, (1,))], [0], ["01"], [(0, 1), None], {(0, 1): 1},
            [(0, HUGE)], [(-HUGE, 0)], Semigroup([[0]]), (0, 1),
        ]
        for value in wrong:
            self.assertEqual(error_of(semilattice, 2, value), MALFORMED)

    def test_every_value_of_the_pairs(self):
        for value in odd_values():
            form = isinstance(value, (list, tuple)) and all(
                isinstance(pair, tuple) and len(pair) == 2 and all(is_number(x) and 0 <= x < 2 for x in pair)
                for pair in value
            )
            if not form:
                self.assertEqual(error_of(semilattice, 2, value), MALFORMED)
            else:
                self.check(2, value)

    def test_arguments_stay(self):
        pairs = [(0, 1), (1, 2)]
        semilattice(3, pairs)
        self.assertEqual(pairs, [(0, 1), (1, 2)])


class Made(unittest.TestCase):
    def test_products(self):
        for a, b in product(SMALL, repeat=2):
            s = direct_product(a, b)
            places = list(product(range(a.n), range(b.n)))
            self.assertEqual(s.n, len(places))
            for number, (x, y) in enumerate(places):
                row = [places.index((a.table[x][u], b.table[y][v])) for u, v in places]
                self.assertEqual(s.table[number], tuple(row))

    def test_products_at_the_limit(self):
        self.assertEqual(direct_product(cyclic_group(4), null_semigroup(6)).n, 24)
        self.assertEqual(direct_product(CYCLIC_24, Semigroup([[0]])), CYCLIC_24)
        self.assertEqual(direct_product(Semigroup([[0]]), CYCLIC_24), CYCLIC_24)
        self.assertEqual(error_of(direct_product, cyclic_group(5), cyclic_group(5)), LARGE)
        self.assertEqual(error_of(direct_product, CYCLIC_24, cyclic_group(2)), LARGE)
        self.assertEqual(error_of(direct_product, NULL_24, NULL_24), LARGE)

    def test_opposite(self):
        for s in SAMPLES:
            other = opposite(s)
            for x, y in product(range(s.n), repeat=2):
                self.assertEqual(other.table[x][y], s.table[y][x])
        self.assertEqual(opposite(left_zero(24)), right_zero(24))

    def test_zero_and_unit_are_always_added(self):
        for s in SMALL + [BRANDT_4, cyclic_group(23), null_semigroup(23)]:
            n = s.n
            zero, unit = with_zero(s), with_unit(s)
            self.assertEqual((zero.n, unit.n), (n + 1, n + 1))
            self.assertEqual((zero.zero(), unit.unit()), (n, n))
            for x, y in product(range(n + 1), repeat=2):
                old = s.table[x][y] if x < n and y < n else None
                self.assertEqual(zero.table[x][y], n if old is None else old)
                self.assertEqual(unit.table[x][y], (y if x == n else x) if old is None else old)

    def test_zero_and_unit_at_the_limit(self):
        for s in LARGER:
            if s.n == 24:
                self.assertEqual(error_of(with_zero, s), LARGE)
                self.assertEqual(error_of(with_unit, s), LARGE)

    def test_relabeled(self):
        for s in SMALL:
            for images in product(range(-1, 4), repeat=s.n):
                if sorted(images) != list(range(s.n)):
                    self.assertEqual(error_of(relabeled, s, images), MALFORMED)
                    continue
                other = relabeled(s, images)
                for x, y in product(range(s.n), repeat=2):
                    self.assertEqual(other.table[images[x]][images[y]], images[s.table[x][y]])

    def test_relabeled_larger_ones(self):
        for s in LARGER:
            images = tuple((x + 5) % s.n for x in range(s.n))
            other = relabeled(s, images)
            for x, y in product(range(s.n), repeat=2):
                self.assertEqual(other.table[images[x]][images[y]], images[s.table[x][y]])
            self.assertEqual(relabeled(s, tuple(range(s.n))), s)

    def test_every_value_of_the_images(self):
        for n in (1, 2, 3):
            s = null_semigroup(n)
            for value in odd_values():
                right = isinstance(value, tuple) and all(is_number(x) for x in value)
                right = right and sorted(value) == list(range(n))
                self.assertEqual(error_of(relabeled, s, value), None if right else MALFORMED)
        for value in ([0, 1], (0,), (0, 1, 2), (0, 0), (False, True), (0, True), (1, 2), "01", None):
            self.assertEqual(error_of(relabeled, null_semigroup(2), value), MALFORMED)
