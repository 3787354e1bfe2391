import unittest
from itertools import product

from reesblocks.parts import (
    generated, ideal, idempotent_power, index_and_period, is_ideal, is_subsemigroup, least_ideal, least_words,
    left_ideal, restricted, right_ideal,
)
from reesblocks.semigroup import Semigroup
from samples import (
    BAND_24, BRANDT_4, CHAIN_24, CYCLIC_24, INVERSE_MONOID_2, LARGER, MALFORMED, MONOGENIC_24, NULL_24,
    ORDERED_MAPS_OF_3, SAMPLES, SMALL, SYMMETRIC_GROUP_4, error_of, is_number, odd_values, subsets, value_of, words_up_to,
)

GENERATING = (least_words, generated, left_ideal, right_ideal, ideal)


def products_of(s, items):
    """All products of one or more of the items, by multiplying until nothing new comes."""
    known = set(items)
    while True:
        more = known | {s.table[x][y] for x in known for y in known}
        if more == known:
            return known
        known = more


def words_by_listing(s, items):
    """The first word with each value, listing all words in their order until each element has one."""
    missing = products_of(s, items)
    found = {}
    for word in words_up_to(len(items), s.n):
        value = value_of(s, items, word)
        if value in missing:
            missing.discard(value)
            found[value] = word
            if not missing:
                break
    return tuple(sorted(found.items()))


def is_left(s, subset):
    return all(s.table[y][x] in subset for x in subset for y in range(s.n))


def is_right(s, subset):
    return all(s.table[x][y] in subset for x in subset for y in range(s.n))


class Words(unittest.TestCase):
    def test_example(self):
        s = Semigroup(((1, 2, 0), (2, 0, 1), (0, 1, 2)))
        self.assertEqual(least_words(s, [0]), ((0, (0,)), (1, (0, 0)), (2, (0, 0, 0))))

    def test_all_small_ones(self):
        for s in SMALL:
            for many in (1, 2, 3):
                for items in product(range(s.n), repeat=many):
                    wanted = words_by_listing(s, items)
                    self.assertEqual(least_words(s, items), wanted)
                    self.assertEqual(least_words(s, list(items)), wanted)
                    self.assertEqual(generated(s, items), tuple(x for x, _ in wanted))

    def test_larger_ones(self):
        for s in (INVERSE_MONOID_2, ORDERED_MAPS_OF_3, BRANDT_4, BAND_24, NULL_24):
            for items in ([s.n - 1], [0, s.n - 1], [1, s.n // 2, 1], [s.n - 2, 2, 0, 3]):
                wanted = words_by_listing(s, items)
                self.assertEqual(least_words(s, items), wanted)
                self.assertEqual(generated(s, tuple(items)), tuple(sorted(products_of(s, items))))

    def test_long_words(self):
        self.assertEqual(least_words(CYCLIC_24, [1])[0], (0, (0,) * 24))
        self.assertEqual(least_words(CYCLIC_24, [1, 5])[23], (23, (0, 0, 0, 1, 1, 1, 1)))
        self.assertEqual(least_words(MONOGENIC_24, [0])[23], (23, (0,) * 24))

    def test_one_group_of_24(self):
        for items in ([1, 6], [6, 1], [23, 1, 2]):
            self.assertEqual(least_words(SYMMETRIC_GROUP_4, items), words_by_listing(SYMMETRIC_GROUP_4, items))

    def test_the_least_index(self):
        self.assertEqual(least_words(CHAIN_24, [5, 7, 5, 7, 3]), ((3, (4,)), (5, (0,)), (7, (1,))))
        self.assertEqual(least_words(Semigroup([[0]]), (0, 0)), ((0, (0,)),))

    def test_all_elements_generate_all(self):
        for s in SAMPLES:
            self.assertEqual(least_words(s, list(range(s.n))), tuple((x, (x,)) for x in range(s.n)))


class Ideals(unittest.TestCase):
    def test_least_with_the_items(self):
        for s in SMALL:
            parts = [set(part) for part in subsets(s.n) if part]
            lefts = [part for part in parts if is_left(s, part)]
            rights = [part for part in parts if is_right(s, part)]
            both = [part for part in lefts if part in rights]
            for many in (1, 2, 3):
                for items in product(range(s.n), repeat=many):
                    for function, kinds in ((left_ideal, lefts), (right_ideal, rights), (ideal, both)):
                        wanted = tuple(sorted(set.intersection(*[part for part in kinds if set(items) <= part])))
                        self.assertEqual(function(s, items), wanted)
                        self.assertEqual(function(s, list(items)), wanted)
            self.assertEqual(least_ideal(s), tuple(sorted(set.intersection(*both))))

    def test_sets_of_multiples(self):
        for s in LARGER:
            for items in [[x] for x in range(s.n)] + [[s.n - 1, 0, s.n - 1], [1, 2]]:
                every = range(s.n)
                left = set(items) | {s.table[y][x] for x in items for y in every}
                right = set(items) | {s.table[x][y] for x in items for y in every}
                both = left | right | {s.table[s.table[y][x]][z] for x in items for y in every for z in every}
                self.assertEqual(left_ideal(s, items), tuple(sorted(left)))
                self.assertEqual(right_ideal(s, items), tuple(sorted(right)))
                self.assertEqual(ideal(s, items), tuple(sorted(both)))

    def test_least_ideal_of_larger_ones(self):
        for s in LARGER:
            every = range(s.n)
            parts = [{x} | {s.table[x][y] for y in every} | {s.table[y][x] for y in every}
                     | {s.table[s.table[y][x]][z] for y in every for z in every} for x in every]
            self.assertEqual(least_ideal(s), tuple(sorted(set.intersection(*parts))))
        self.assertEqual(least_ideal(CHAIN_24), (0,))
        self.assertEqual(least_ideal(BRANDT_4), (16,))
        self.assertEqual(least_ideal(MONOGENIC_24), tuple(range(9, 24)))
        self.assertEqual(least_ideal(Semigroup([[0]])), (0,))


class Subsets(unittest.TestCase):
    def test_all_subsets_of_small_ones(self):
        for s in SMALL:
            for part in subsets(s.n):
                closed = len(part) > 0 and all(s.table[x][y] in part for x in part for y in part)
                self.assertIs(is_subsemigroup(s, part), closed)
                self.assertIs(is_ideal(s, part), len(part) > 0 and is_left(s, part) and is_right(s, part))
                if closed:
                    rows = [[part.index(s.table[x][y]) for y in part] for x in part]
                    self.assertEqual(restricted(s, part), Semigroup(rows))
                else:
                    self.assertEqual(error_of(restricted, s, part), MALFORMED)

    def test_all_tuples_over_three(self):
        s = Semigroup([[0] * 3] * 3)
        for many in range(5):
            for value in product(range(-1, 4), repeat=many):
                part = many > 0 and list(value) == sorted(set(value)) and all(0 <= x < 3 for x in value)
                right = part and 0 in value
                self.assertIs(is_subsemigroup(s, value), right)
                self.assertIs(is_ideal(s, value), right)
                self.assertIs(is_ideal(s, list(value)), False)
                self.assertIs(is_subsemigroup(s, list(value)), False)

    def test_left_and_right_ideals_are_no_ideals(self):
        left = Semigroup([[0, 0], [1, 1]])
        self.assertEqual((is_ideal(left, (0,)), is_subsemigroup(left, (0,))), (False, True))
        right = Semigroup([[0, 1], [0, 1]])
        self.assertEqual((is_ideal(right, (0,)), is_subsemigroup(right, (0,))), (False, True))

    def test_larger_ones(self):
        self.assertEqual(restricted(CYCLIC_24, tuple(range(0, 24, 2))).table[11], tuple((11 + y) % 12 for y in range(12)))
        self.assertEqual(restricted(CHAIN_24, (3, 7, 23)), Semigroup([[0, 0, 0], [0, 1, 1], [0, 1, 2]]))
        self.assertEqual(restricted(BRANDT_4, (5,)), Semigroup([[0]]))
        for s in LARGER:
            self.assertEqual(restricted(s, tuple(range(s.n))), s)
            self.assertIs(is_ideal(s, tuple(range(s.n))), True)

    def test_every_value(self):
        for s in (Semigroup([[0]]), Semigroup([[0, 0], [0, 1]]), Semigroup([[0] * 3] * 3)):
            for value in odd_values():
                part = isinstance(value, tuple) and len(value) > 0 and all(is_number(x) for x in value)
                part = part and all(0 <= x < s.n for x in value) and list(value) == sorted(set(value))
                closed = part and all(s.table[x][y] in value for x in value for y in value)
                self.assertIs(is_subsemigroup(s, value), closed)
                self.assertIs(is_ideal(s, value), part and is_left(s, value) and is_right(s, value))
                self.assertEqual(error_of(restricted, s, value), None if closed else MALFORMED)


class Arguments(unittest.TestCase):
    def test_malformed_items(self):
        s = Semigroup([[0, 0], [0, 1]])
        wrong = [[], (), [2], [-1], [0, 2], [0, -1], [True], (0, False), [None], ["0"], [[0]], [(0,)], "0", 0, None, {0: 0}]
        for function in GENERATING:
            for value in wrong:
                self.assertEqual(error_of(function, s, value), MALFORMED)

    def test_every_value(self):
        for s in (Semigroup([[0]]), Semigroup([[0] * 3] * 3), NULL_24):
            for value in odd_values():
                right = isinstance(value, (list, tuple)) and len(value) > 0
                right = right and all(is_number(x) and 0 <= x < s.n for x in value)
                for function in GENERATING:
                    self.assertEqual(error_of(function, s, value), None if right else MALFORMED)

    def test_arguments_stay(self):
        items = [2, 1, 2]
        for function in GENERATING:
            function(CYCLIC_24, items)
        self.assertEqual(items, [2, 1, 2])


class Powers(unittest.TestCase):
    def test_index_period_and_idempotent(self):
        for s in SAMPLES:
            for x in range(s.n):
                powers = [None, x]
                for _ in range(80):
                    powers.append(s.table[powers[-1]][x])
                index, period = index_and_period(s, x)
                pairs = [(i, d) for i in range(1, 26) for d in range(1, 26) if powers[i + d] == powers[i]]
                self.assertEqual((index, period), (min(i for i, _ in pairs), min(d for _, d in pairs)))
                self.assertEqual(len(set(powers[1:])), index + period - 1)
                found = [y for y in set(powers[1:]) if s.table[y][y] == y]
                self.assertEqual([idempotent_power(s, x)], found)

    def test_examples(self):
        self.assertEqual(index_and_period(MONOGENIC_24, 0), (10, 15))
        self.assertEqual(idempotent_power(MONOGENIC_24, 0), 14)
        self.assertEqual(index_and_period(MONOGENIC_24, 1), (5, 15))
        self.assertEqual(index_and_period(CYCLIC_24, 1), (1, 24))
        self.assertEqual(index_and_period(NULL_24, 5), (2, 1))
        self.assertEqual(index_and_period(Semigroup([[0]]), 0), (1, 1))
