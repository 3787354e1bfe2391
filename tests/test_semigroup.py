import unittest
from itertools import product

from reesblocks.errors import Fault
from reesblocks.semigroup import Semigroup
from samples import (
    CHAIN_24, CYCLIC_24, LARGE, LARGER, MALFORMED, MONOGENIC_24, NULL_24, SAMPLES, SMALL, all_tables, deep, error_of,
    is_associative, is_number, odd_values,
)

ASSOCIATIVE = ("Refused", "associative")


class Making(unittest.TestCase):
    def test_all_tables_up_to_three(self):
        counts = []
        for n in (1, 2, 3):
            right = 0
            for table in all_tables(n):
                if is_associative(table):
                    s = Semigroup(table)
                    self.assertEqual((s.n, s.table), (n, table))
                    right += 1
                else:
                    self.assertEqual(error_of(Semigroup, table), ASSOCIATIVE)
            counts.append(right)
        self.assertEqual(counts, [1, 8, 113])

    def test_lists_and_tuples(self):
        for table in ([[0, 0], [0, 1]], ((0, 0), (0, 1)), [(0, 0), [0, 1]], ([0, 0], (0, 1))):
            s = Semigroup(table)
            self.assertEqual(s.table, ((0, 0), (0, 1)))
            self.assertIsInstance(s.table, tuple)
            self.assertTrue(all(isinstance(row, tuple) for row in s.table))

    def test_a_changed_list_changes_nothing(self):
        table = [[0, 0], [0, 1]]
        s = Semigroup(table)
        self.assertEqual(table, [[0, 0], [0, 1]])
        table[1][1] = 0
        table.append([0, 0])
        self.assertEqual(s.table, ((0, 0), (0, 1)))
        self.assertEqual(str(s), "2: 0 0; 0 1")

    def test_sizes(self):
        for n in (1, 23, 24):
            self.assertEqual(Semigroup([[0] * n] * n).n, n)
        for n in (25, 26, 100):
            self.assertEqual(error_of(Semigroup, [[0] * n] * n), LARGE)

    def test_order_of_the_errors(self):
        many = [[0] * 25 for _ in range(25)]
        many[0][0] = 1
        self.assertFalse(is_associative(many))
        self.assertEqual(error_of(Semigroup, many), LARGE)
        for wrong in (25, -1, True, "0", None, [0]):
            many[24][24] = wrong
            self.assertEqual(error_of(Semigroup, many), MALFORMED)
        many[24][24] = 0
        many[24].append(0)
        self.assertEqual(error_of(Semigroup, many), MALFORMED)

    def test_malformed(self):
        wrong = [
            [], (), [[]], [[0], [0]], [[0, 0]], [[0, 0], [0]], [[0, 0], [0, 0, 0]], [[1]], [[-1]], [[True]], [[False]],
            [[0, 0], [0, True]], [[0, 1], [1, False]], [["0"]], [[None]], [[[0]]], [[(0,)]], ["0"], "0", "00", 0, 1,
            None, True, {0: [0]}, [{0: 0}], [[0, 0], [0, 2]], [[0, 10 ** 5000], [0, 0]], [[0, -10 ** 5000], [0, 0]],
            [[Semigroup([[0]])]], [Semigroup([[0]])], Semigroup([[0]]), [deep(100000, tuple)], deep(100000, list),
        ]
        for value in wrong:
            self.assertEqual(error_of(Semigroup, value), MALFORMED)

    def test_every_value(self):
        for value in odd_values():
            rows = value if isinstance(value, (list, tuple)) else []
            form = len(rows) > 0 and all(
                isinstance(row, (list, tuple)) and len(row) == len(rows)
                and all(is_number(x) and 0 <= x < len(rows) for x in row)
                for row in rows
            )
            if not form:
                self.assertEqual(error_of(Semigroup, value), MALFORMED)
            elif not is_associative(value):
                self.assertEqual(error_of(Semigroup, value), ASSOCIATIVE)
            else:
                self.assertEqual(Semigroup(value).n, len(rows))

    def test_methods_stand_in_the_class(self):
        names = [
            "__eq__", "__str__", "is_element", "multiply", "product", "power", "idempotents", "zero", "unit",
        ]
        for name in names:
            self.assertIn(name, vars(Semigroup))
        self.assertEqual(Semigroup.__module__, "reesblocks.semigroup")


class Equality(unittest.TestCase):
    def test_all_small_ones(self):
        for one, other in product(SMALL, repeat=2):
            self.assertIs(one == other, one.table == other.table)
            self.assertIs(one != other, one.table != other.table)

    def test_lists_or_tuples_make_no_difference(self):
        self.assertIs(Semigroup([[0, 0], [0, 1]]) == Semigroup(((0, 0), (0, 1))), True)

    def test_every_value(self):
        for s in (Semigroup([[0]]), Semigroup([[0, 0], [0, 1]])):
            for value in odd_values():
                same = isinstance(value, Semigroup) and value.table == s.table
                self.assertIs(s == value, same)
                self.assertIs(s != value, not same)
            self.assertIs(s == s.table, False)
            self.assertIs(s == str(s), False)


class Methods(unittest.TestCase):
    def test_is_element(self):
        for s in (Semigroup([[0]]), Semigroup([[0, 0], [0, 1]]), NULL_24):
            for x in range(-30, 60):
                self.assertIs(s.is_element(x), 0 <= x < s.n)
            for value in odd_values():
                self.assertIs(s.is_element(value), is_number(value) and value in range(s.n))

    def test_multiply(self):
        for s in SAMPLES:
            for x, y in product(range(s.n), repeat=2):
                self.assertEqual(s.multiply(x, y), s.table[x][y])

    def test_product(self):
        for s in SMALL:
            for x, y, z in product(range(s.n), repeat=3):
                self.assertEqual(s.product([x]), x)
                self.assertEqual(s.product((x, y)), s.table[x][y])
                self.assertEqual(s.product([x, y, z]), s.table[s.table[x][y]][z])
        self.assertEqual(CYCLIC_24.product(list(range(24)) * 50), sum(range(24)) * 50 % 24)
        items = [1, 2, 3]
        CYCLIC_24.product(items)
        self.assertEqual(items, [1, 2, 3])

    def test_small_powers(self):
        for s in SAMPLES:
            for x in range(s.n):
                value = x
                for k in range(1, 60):
                    self.assertEqual(s.power(x, k), value)
                    value = s.table[value][x]

    def test_very_large_powers(self):
        for k in (10 ** 9, 2 ** 64 + 5, 10 ** 5000 + 7, 10 ** 100000):
            self.assertEqual(CYCLIC_24.power(1, k), k % 24)
            self.assertEqual(CYCLIC_24.power(5, k), 5 * k % 24)
            self.assertEqual(MONOGENIC_24.power(0, k), 9 + (k - 10) % 15)
            self.assertEqual(NULL_24.power(3, k), 0)
            self.assertEqual(CHAIN_24.power(3, k), 3)

    def test_idempotents(self):
        for s in SAMPLES:
            self.assertEqual(s.idempotents(), tuple(e for e in range(s.n) if s.table[e][e] == e))
        self.assertEqual(CYCLIC_24.idempotents(), (0,))
        self.assertEqual(CHAIN_24.idempotents(), tuple(range(24)))

    def test_zero_and_unit(self):
        for s in SAMPLES:
            every = range(s.n)
            zeros = [z for z in every if all(s.table[z][x] == z == s.table[x][z] for x in every)]
            units = [e for e in every if all(s.table[e][x] == x == s.table[x][e] for x in every)]
            self.assertEqual(s.zero(), zeros[0] if zeros else None)
            self.assertEqual(s.unit(), units[0] if units else None)

    def test_zero_and_unit_by_example(self):
        one = Semigroup([[0]])
        self.assertEqual((one.zero(), one.unit(), one.idempotents()), (0, 0, (0,)))
        self.assertEqual((CHAIN_24.zero(), CHAIN_24.unit()), (0, 23))
        self.assertEqual((CYCLIC_24.zero(), CYCLIC_24.unit()), (None, 0))
        left = Semigroup([[0, 0], [1, 1]])
        self.assertEqual((left.zero(), left.unit()), (None, None))
        self.assertEqual((Semigroup([[0, 1], [0, 1]]).zero(), Semigroup([[0, 1], [0, 1]]).unit()), (None, None))

    def test_nothing_changes(self):
        for s in LARGER:
            before = str(s)
            s.power(0, 50), s.idempotents(), s.zero(), s.unit(), s.product([0, 0])
            self.assertEqual(str(s), before)

    def test_errors_are_faults(self):
        with self.assertRaises(Fault):
            Semigroup([])


if __name__ == "__main__":
    unittest.main()
