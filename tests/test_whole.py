import unittest
from itertools import product

from reesblocks.semigroup import Semigroup
from reesblocks.whole import (
    by_keys, class_sets, classes_of, is_equivalence, is_integer, joined, meet, refines,
)
from samples import equivalences, is_number, odd_values


def relation(classes):
    n = len(classes)
    return {(x, y) for x in range(n) for y in range(n) if classes[x] == classes[y]}


def least_with(pairs, n):
    """The least equivalence with these pairs: the one with the fewest pairs of all that have them."""
    fitting = [e for e in equivalences(n) if all(e[x] == e[y] for x, y in pairs)]
    return min(fitting, key=lambda e: len(relation(e)))


class Integers(unittest.TestCase):
    def test_integers(self):
        for value in (0, 1, -1, 24, 10 ** 5000, -10 ** 5000):
            self.assertIs(is_integer(value), True)

    def test_other_values(self):
        for value in (True, False, None, "0", "", [], (), [0], (0,), Semigroup([[0]]), is_integer):
            self.assertIs(is_integer(value), False)

    def test_every_value(self):
        for value in odd_values():
            self.assertIs(is_integer(value), is_number(value))


class Equivalences(unittest.TestCase):
    def test_all_small_tuples(self):
        for n in range(5):
            right = equivalences(n)
            for value in product(range(-1, n + 1), repeat=n):
                self.assertIs(is_equivalence(value, n), value in right)
                self.assertIs(is_equivalence(list(value), n), False)

    def test_no_numbers(self):
        self.assertIs(is_equivalence((), 0), True)
        self.assertIs(is_equivalence([], 0), False)
        self.assertIs(is_equivalence((), 1), False)
        self.assertIs(is_equivalence((0,), 0), False)

    def test_length(self):
        self.assertIs(is_equivalence((0, 1), 3), False)
        self.assertIs(is_equivalence((0, 1, 2), 2), False)
        self.assertIs(is_equivalence((0, 1), 10 ** 5000), False)
        self.assertIs(is_equivalence((), -1), False)

    def test_least_element_of_the_class(self):
        self.assertIs(is_equivalence((0, 0, 2, 2), 4), True)
        self.assertIs(is_equivalence((1, 1, 2, 3), 4), False)
        self.assertIs(is_equivalence((0, 0, 1, 3), 4), False)
        self.assertIs(is_equivalence((0, 2, 2, 3), 4), False)
        self.assertIs(is_equivalence((0, 1, -2, 3), 4), False)

    def test_true_and_false_are_no_numbers(self):
        for value in ((False,), (0, True), (False, 1), (0, False)):
            self.assertIs(is_equivalence(value, len(value)), False)
        self.assertIs(is_equivalence((0,), True), False)

    def test_every_value(self):
        right = {(), (0,), (0, 0), (0, 1), (0, 0, 0), (0, 1, 2)}
        for value in odd_values():
            for n in (0, 1, 2, 3):
                plain = isinstance(value, tuple) and all(is_number(x) for x in value)
                expected = plain and len(value) == n and value in right
                self.assertIs(is_equivalence(value, n), expected)

    def test_many_numbers(self):
        self.assertIs(is_equivalence(tuple(range(3000)), 3000), True)
        self.assertIs(is_equivalence((0,) * 3000, 3000), True)
        self.assertIs(is_equivalence(tuple(range(2999)) + (3000,), 3000), False)


class Classes(unittest.TestCase):
    def test_all_pairs_of_three_numbers(self):
        everything = list(product(range(3), repeat=2))
        for many in range(4):
            for pairs in product(everything, repeat=many):
                self.assertEqual(classes_of(pairs, 3), least_with(pairs, 3))

    def test_three_pairs_of_five_numbers(self):
        chosen = [(0, 4), (4, 3), (1, 3), (2, 1), (3, 3), (4, 2)]
        for pairs in product(chosen, repeat=3):
            self.assertEqual(classes_of(list(pairs), 5), least_with(pairs, 5))

    def test_edges(self):
        self.assertEqual(classes_of([], 0), ())
        self.assertEqual(classes_of((), 3), (0, 1, 2))
        self.assertEqual(classes_of([[2, 1]], 3), (0, 1, 1))

    def test_long_chains(self):
        n = 2000
        up = [(x, x + 1) for x in range(n - 1)]
        self.assertEqual(classes_of(up, n), (0,) * n)
        self.assertEqual(classes_of(up[::-1], n), (0,) * n)
        self.assertEqual(classes_of([(y, x) for x, y in up], n), (0,) * n)
        self.assertEqual(classes_of([(x, x + 2) for x in range(n - 2)], n), (0, 1) * (n // 2))

    def test_by_keys(self):
        self.assertEqual(by_keys([]), ())
        self.assertEqual(by_keys(("a", "b", "a", "c", "b")), (0, 1, 0, 3, 1))
        self.assertEqual(by_keys([[1], (1,), [1], None, None]), (0, 1, 0, 3, 3))
        one, other = Semigroup([[0]]), Semigroup([[0, 0], [0, 0]])
        self.assertEqual(by_keys([one, other, Semigroup([[0]])]), (0, 1, 0))
        for keys in product(range(4), repeat=4):
            classes = by_keys(keys)
            self.assertTrue(is_equivalence(classes, 4))
            self.assertEqual(relation(classes), {(x, y) for x in range(4) for y in range(4) if keys[x] == keys[y]})

    def test_class_sets(self):
        self.assertEqual(class_sets(()), ())
        self.assertEqual(class_sets((0, 1, 0, 1, 4)), ((0, 2), (1, 3), (4,)))
        for n in range(5):
            for classes in equivalences(n):
                wanted = sorted({tuple(y for y in range(n) if classes[y] == classes[x]) for x in range(n)})
                self.assertEqual(class_sets(classes), tuple(wanted))


class Lattice(unittest.TestCase):
    def test_refines_join_and_meet(self):
        for n in range(5):
            every = equivalences(n)
            for a, b in product(every, repeat=2):
                self.assertIs(refines(a, b), relation(a) <= relation(b))
                above = [e for e in every if relation(a) <= relation(e) and relation(b) <= relation(e)]
                self.assertEqual(joined(a, b), min(above, key=lambda e: len(relation(e))))
                self.assertEqual(relation(meet(a, b)), relation(a) & relation(b))
                self.assertIn(meet(a, b), every)

    def test_arguments_stay(self):
        pairs, keys = [[0, 1], [1, 2]], [[1], [1]]
        classes_of(pairs, 3)
        by_keys(keys)
        self.assertEqual((pairs, keys), ([[0, 1], [1, 2]], [[1], [1]]))
