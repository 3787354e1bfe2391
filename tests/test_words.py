import unittest
from itertools import product

from reesblocks.build import cyclic_group, left_zero, monogenic, rectangular_band, with_zero
from reesblocks.semigroup import Semigroup
from reesblocks.words import (
    failing, holds, is_aperiodic, is_band, is_commutative, is_completely_regular, is_group, is_rectangular,
    is_semilattice, word_classes,
)
from samples import (
    ALL_MAPS_OF_2, BAND_24, BRANDT_4, CHAIN_24, CYCLIC_24, GROUP_WITH_ZERO, LARGER, LEFT_ZERO_24, MALFORMED,
    MONOGENIC_24, NULL_24, SAMPLES, SMALL, SYMMETRIC_GROUP_4, WORDS, error_of, is_number, odd_values,
)


def value(s, word, triple):
    """The value of a word, worked out letter by letter."""
    found = None
    for letter in word:
        x = triple["xyz".index(letter)]
        found = x if found is None else s.table[found][x]
    return found


def first_failing(s, left, right):
    for triple in product(range(s.n), repeat=3):
        if value(s, left, triple) != value(s, right, triple):
            return triple
    return None


def wrong_words():
    return ["", "a", "xa", "X", "x y", " x", "x\n", "x" * 13, "xyz" * 5, "1", "\u0445"]


def no_words():
    return wrong_words() + [value for value in odd_values() if not isinstance(value, str)] + [b"x", ["x"], ("x",)]


class Identities(unittest.TestCase):
    def test_example(self):
        self.assertEqual(failing(Semigroup(((0, 0), (1, 1))), "xy", "yx"), (0, 1, 0))

    def test_definition(self):
        for s in SMALL + [ALL_MAPS_OF_2, GROUP_WITH_ZERO]:
            for left, right in product(WORDS, repeat=2):
                wanted = first_failing(s, left, right)
                self.assertEqual(failing(s, left, right), wanted)
                self.assertIs(holds(s, left, right), wanted is None)

    def test_larger_ones(self):
        for s in LARGER:
            for left, right in (("xy", "yx"), ("xyz", "zyx"), ("zzz", "z"), ("xyzxyzxyzxyz", "zyxzyxzyxzyx")):
                wanted = first_failing(s, left, right)
                self.assertEqual(failing(s, left, right), wanted)
                self.assertIs(holds(s, left, right), wanted is None)
        self.assertEqual(failing(CYCLIC_24, "xxxxxxxxxxxx", "y"), (0, 1, 0))
        self.assertEqual(failing(CYCLIC_24, "z", "x"), (0, 0, 1))
        self.assertIsNone(failing(NULL_24, "xy", "zzzzzzzzzzzz"))

    def test_malformed(self):
        for s in (Semigroup([[0]]), CYCLIC_24):
            for wrong in no_words():
                for function in (failing, holds):
                    self.assertEqual(error_of(function, s, wrong, "x"), MALFORMED)
                    self.assertEqual(error_of(function, s, "x", wrong), MALFORMED)
                    self.assertEqual(error_of(function, s, wrong, wrong), MALFORMED)
            self.assertIsNone(error_of(failing, s, "xyzxyzxyzxyz", "z"))
        self.assertEqual(error_of(failing, CYCLIC_24, "x", "xyzxyzxyzxyzx"), MALFORMED)


class Kinds(unittest.TestCase):
    def test_definitions(self):
        for s in SAMPLES:
            every, t = range(s.n), s.table
            commutes = all(t[x][y] == t[y][x] for x in every for y in every)
            band = all(t[x][x] == x for x in every)
            self.assertIs(is_commutative(s), commutes)
            self.assertIs(is_band(s), band)
            self.assertIs(is_semilattice(s), commutes and band)
            self.assertIs(is_rectangular(s), all(t[t[x][y]][x] == x for x in every for y in every))
            self.assertIs(is_completely_regular(s), all(any(self.is_power(s, x, k) for k in range(2, 26)) for x in every))
            self.assertIs(is_group(s), self.has_unit_and_inverses(s))
            self.assertIs(is_aperiodic(s), all(self.ends_in_one(s, x) for x in every))

    def is_power(self, s, x, k):
        return self.power(s, x, k) == x

    def power(self, s, x, k):
        found = x
        for _ in range(k - 1):
            found = s.table[found][x]
        return found

    def has_unit_and_inverses(self, s):
        every = range(s.n)
        units = [e for e in every if all(s.table[e][x] == x == s.table[x][e] for x in every)]
        return bool(units) and all(any(s.table[x][y] == units[0] for y in every) for x in every)

    def ends_in_one(self, s, x):
        return self.power(s, x, 30) == self.power(s, x, 31)

    def test_examples(self):
        told = [
            (CYCLIC_24, [1, 0, 0, 0, 1, 1, 0]), (SYMMETRIC_GROUP_4, [0, 0, 0, 0, 1, 1, 0]),
            (CHAIN_24, [1, 1, 1, 0, 1, 0, 1]),
            (NULL_24, [1, 0, 0, 0, 0, 0, 1]), (LEFT_ZERO_24, [0, 1, 0, 1, 1, 0, 1]), (BAND_24, [0, 1, 0, 1, 1, 0, 1]),
            (GROUP_WITH_ZERO, [1, 0, 0, 0, 1, 0, 0]), (BRANDT_4, [0, 0, 0, 0, 0, 0, 1]),
            (MONOGENIC_24, [1, 0, 0, 0, 0, 0, 0]),
            (Semigroup([[0]]), [1, 1, 1, 1, 1, 1, 1]), (cyclic_group(2), [1, 0, 0, 0, 1, 1, 0]),
            (with_zero(left_zero(2)), [0, 1, 0, 0, 1, 0, 1]), (monogenic(3, 1), [1, 0, 0, 0, 0, 0, 1]),
        ]
        functions = [
            is_commutative, is_band, is_semilattice, is_rectangular, is_completely_regular, is_group, is_aperiodic,
        ]
        for s, wanted in told:
            for function, truth in zip(functions, wanted):
                self.assertIs(function(s), bool(truth), (str(s)[:30], function.__name__))


class Classes(unittest.TestCase):
    def by_definition(self, s, letters, most):
        words = ["".join(word) for k in range(1, most + 1) for word in product("xyz"[:letters], repeat=k)]
        classes = []
        for word in words:
            for some in classes:
                if first_failing(s, some[0], word) is None:
                    some.append(word)
                    break
            else:
                classes.append([word])
        return tuple(tuple(some) for some in classes)

    def test_example(self):
        found = word_classes(Semigroup(((0, 0), (1, 1))), 2, 2)
        self.assertEqual(found, (("x", "xx", "xy"), ("y", "yx", "yy")))

    def test_definition(self):
        for s in SMALL[::4] + [ALL_MAPS_OF_2, rectangular_band(2, 2), monogenic(2, 3)]:
            for letters in (1, 2, 3):
                for most in (1, 2, 3):
                    self.assertEqual(word_classes(s, letters, most), self.by_definition(s, letters, most))
        for s in SMALL[::30]:
            self.assertEqual(word_classes(s, 3, 4), self.by_definition(s, 3, 4))

    def test_larger_ones(self):
        for s in (CYCLIC_24, SYMMETRIC_GROUP_4, NULL_24, BAND_24):
            found = word_classes(s, 3, 4)
            words = [word for some in found for word in some]
            self.assertEqual(len(words), 3 + 9 + 27 + 81)
            self.assertEqual(len(set(words)), len(words))
            order = [(len(some[0]), some[0]) for some in found]
            self.assertEqual(order, sorted(order))
            for some in found:
                self.assertEqual(list(some), sorted(some, key=lambda word: (len(word), word)))
        self.assertEqual(word_classes(NULL_24, 1, 4), (("x",), ("xx", "xxx", "xxxx")))
        self.assertEqual(word_classes(LEFT_ZERO_24, 1, 3), (("x", "xx", "xxx"),))
        self.assertEqual(word_classes(cyclic_group(2), 1, 4), (("x", "xxx"), ("xx", "xxxx")))
        self.assertEqual(len(word_classes(CYCLIC_24, 3, 4)), 3 + 6 + 10 + 15)
        self.assertEqual(len(word_classes(Semigroup([[0]]), 3, 4)), 1)

    def test_malformed(self):
        s = cyclic_group(2)
        for wrong in odd_values() + [3, 4, 5, -3]:
            if not (is_number(wrong) and 1 <= wrong <= 3):
                self.assertEqual(error_of(word_classes, s, wrong, 1), MALFORMED)
            if not (is_number(wrong) and 1 <= wrong <= 4):
                self.assertEqual(error_of(word_classes, s, 1, wrong), MALFORMED)
        self.assertIsNone(error_of(word_classes, s, 3, 4))
        self.assertEqual(error_of(word_classes, s, True, 1), MALFORMED)
        self.assertEqual(error_of(word_classes, s, 1, True), MALFORMED)
