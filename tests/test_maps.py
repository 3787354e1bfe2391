import unittest
from itertools import combinations, product

from reesblocks.build import left_zero, null_semigroup
from reesblocks.maps import (
    composed, generated_maps, is_partial, is_synchronizing, is_transformation, merging_word, reset_word, right_regular,
)
from reesblocks.semigroup import Semigroup
from samples import (
    LARGE, LARGER, MALFORMED, SAMPLES, closure, error_of, is_number, odd_values, then, words_up_to,
)

TRANSFORMATIONS_3 = list(product(range(3), repeat=3))
PARTIALS_3 = [f for f in product(range(-1, 3), repeat=3) if all(f.count(point) <= 1 for point in range(3))]


def transformation(value):
    if not isinstance(value, tuple) or not 1 <= len(value) <= 8:
        return False
    return all(is_number(x) and 0 <= x < len(value) for x in value)


def partial(value):
    if not isinstance(value, tuple) or not 1 <= len(value) <= 8:
        return False
    if not all(is_number(x) and -1 <= x < len(value) for x in value):
        return False
    return all(value[i] == -1 or value[i] != value[j] for i, j in combinations(range(len(value)), 2))


def right_maps(value):
    """Whether the value is a list or tuple of maps of one number of points and of one kind."""
    if not isinstance(value, (list, tuple)) or len(value) == 0:
        return False
    if not all(map(transformation, value)) and not all(map(partial, value)):
        return False
    return len(set(map(len, value))) == 1


def map_of(maps, word):
    """The map of a word, from left to right."""
    f = maps[word[0]]
    for index in word[1:]:
        f = then(f, maps[index])
    return f


def listed(maps, longest):
    """The pairs of a map and its first word, in the order of the words, from all words up to this length."""
    found = {}
    for word in words_up_to(len(maps), longest):
        found.setdefault(map_of(maps, word), word)
    return list(found.items())


class Maps(unittest.TestCase):
    def test_all_small_tuples(self):
        for many in range(1, 5):
            for value in product(range(-2, many + 1), repeat=many):
                self.assertIs(is_transformation(value), transformation(value))
                self.assertIs(is_partial(value), partial(value))
                self.assertIs(is_transformation(list(value)), False)
                self.assertIs(is_partial(list(value)), False)

    def test_numbers_of_points(self):
        self.assertEqual((is_transformation(()), is_partial(())), (False, False))
        for many in range(1, 12):
            for value in (tuple(range(many)), tuple(range(many))[::-1]):
                self.assertIs(is_transformation(value), many <= 8)
                self.assertIs(is_partial(value), many <= 8)
            self.assertIs(is_transformation((0,) * many), many <= 8)
            self.assertIs(is_partial((-1,) * many), many <= 8)

    def test_true_and_false(self):
        for value in ((False,), (0, True), (True, 0), (False, -1), (True, -1)):
            self.assertIs(is_transformation(value), False)
            self.assertIs(is_partial(value), False)

    def test_every_value(self):
        for value in odd_values():
            self.assertIs(is_transformation(value), transformation(value))
            self.assertIs(is_partial(value), partial(value))

    def test_composed(self):
        for f, g in product(TRANSFORMATIONS_3, repeat=2):
            self.assertEqual(composed(f, g), tuple(g[f[point]] for point in range(3)))
        for f, g in product(PARTIALS_3, repeat=2):
            images = tuple(-1 if f[point] == -1 else g[f[point]] for point in range(3))
            self.assertEqual(composed(f, g), images)
            self.assertTrue(is_partial(images))
        self.assertEqual(composed((1, 0), (0, 0)), (0, 0))
        self.assertEqual(composed((0, 0), (1, 0)), (1, 1))
        self.assertEqual(composed((1, -1, 0), (2, -1, 1)), (-1, -1, 2))


class Generated(unittest.TestCase):
    def check(self, maps):
        size = len(closure(maps))
        if size > 24:
            self.assertEqual(error_of(generated_maps, maps), LARGE)
            return
        s, found, words = generated_maps(maps)
        self.assertIsInstance(s, Semigroup)
        self.assertIsInstance(found, tuple)
        self.assertIsInstance(words, tuple)
        self.assertEqual(set(found), set(closure(maps)))
        self.assertEqual((s.n, len(found), len(words)), (size, size, size))
        longest = max(map(len, words))
        if len(maps) ** longest <= 3000:
            self.assertEqual(list(zip(found, words)), listed(maps, longest))
        for k, word in enumerate(words):
            self.assertEqual(map_of(maps, word), found[k])
        for x, y in product(range(size), repeat=2):
            self.assertEqual(found[s.table[x][y]], then(found[x], found[y]))

    def test_example(self):
        s, found, words = generated_maps(((1, 0), (0, 0)))
        self.assertEqual(words, ((0,), (1,), (0, 0), (1, 0)))
        self.assertEqual(found, ((1, 0), (0, 0), (0, 1), (1, 1)))
        self.assertEqual(s.table, ((2, 1, 0, 3), (3, 1, 1, 3), (0, 1, 2, 3), (1, 1, 3, 3)))

    def test_one_and_two_transformations(self):
        for f in TRANSFORMATIONS_3:
            self.check([f])
        for maps in list(product(TRANSFORMATIONS_3, repeat=2))[::3]:
            self.check(maps)

    def test_three_maps_of_two_points(self):
        for maps in product(product(range(2), repeat=2), repeat=3):
            self.check(list(maps))
        partials = [f for f in product(range(-1, 2), repeat=2) if partial(f)]
        for maps in product(partials, repeat=3):
            self.check(maps)

    def test_partial_maps(self):
        for maps in list(product(PARTIALS_3, repeat=2))[::5]:
            self.check(maps)

    def test_kinds_together(self):
        self.check([(1, 2, 0), (0, 1, 2)])
        self.check([(1, 0), (0, -1)])
        self.check([(0, 1, 2), (1, -1, -1)])
        self.assertEqual(error_of(generated_maps, [(0, 0), (0, -1)]), MALFORMED)
        self.assertEqual(error_of(generated_maps, [(0, -1), (0, 0)]), MALFORMED)
        self.assertEqual(error_of(generated_maps, [(0, 1), (0, 0), (0, -1)]), MALFORMED)

    def test_one_point(self):
        for maps in ([(0,)], [(0,), (0,)], [(-1,)], [(0,), (-1,)], [(-1,), (0,)]):
            self.check(maps)

    def test_eight_points(self):
        turn = (1, 2, 3, 4, 5, 6, 7, 0)
        self.check([turn])
        self.assertEqual(generated_maps([turn])[2], tuple((0,) * k for k in range(1, 9)))
        self.check([(-1, 0, 1, 2, 3, 4, 5, 6)])
        self.check([(k,) * 8 for k in range(8)])
        self.check([turn, (7, 6, 5, 4, 3, 2, 1, 0)])
        self.assertEqual(error_of(generated_maps, [turn, (1, 0, 2, 3, 4, 5, 6, 7)]), LARGE)
        self.assertEqual(error_of(generated_maps, [turn, (1, 0, 2, 3, 4, 5, 6, 7), (0, 0, 2, 3, 4, 5, 6, 7)]), LARGE)
        self.assertEqual(error_of(generated_maps, [turn, (-1, 1, 2, 3, 4, 5, 6, 7)]), LARGE)
        self.assertEqual(error_of(generated_maps, [(0,) * 9]), MALFORMED)

    def test_24_and_25_maps(self):
        self.assertEqual(generated_maps([(1, 2, 3, 0), (1, 0, 2, 3)])[0].n, 24)
        self.check([(k,) * 8 for k in range(8)] + [(1, 2, 3, 4, 5, 6, 7, 0), (0, 7, 6, 5, 4, 3, 2, 1)])
        # Each product of two of these maps takes all points to 0, so one map more comes to those that are given.
        null = [(0, 0, 0, 0, *images) for images in product(range(4), repeat=4)][1:]
        for many in (1, 2, 22, 23):
            self.assertEqual(len(closure(null[:many])), many + 1)
            self.check(null[:many])
            self.check(null[:many] + [(0,) * 8])
        for many in (24, 25, 255):
            self.assertEqual(error_of(generated_maps, null[:many]), LARGE)
        partials = [f for f in product(range(-1, 5), repeat=5) if sum(point != -1 for point in f) == 1]
        self.assertEqual((len(partials), len(closure(partials))), (25, 26))
        self.assertEqual(error_of(generated_maps, partials), LARGE)
        small = [f for f in product(range(-1, 4), repeat=4) if sum(point != -1 for point in f) == 1]
        self.check(small)

    def test_malformed(self):
        wrong = [
            [], (), [()], [[0]], [[0, 1], [1, 0]], [(0,), (0, 1)], [(0, 2)], [(-2, 0)], [(0, True)], [(False,)],
            [(0, "1")], [(0, None)], [0], ["0"], "0", "(0,)", None, 0, True, [(0,) * 9], [None], [(0, (0,))],
            {(0, 1): 1}, (0, 1), [(0, 0, -1)], [(1, 1), (-1, 0)], [(0, 1), Semigroup([[0]])], Semigroup([[0]]),
            [(0, 10 ** 5000)], [(0, -10 ** 5000)],
        ]
        for value in wrong:
            self.assertEqual(error_of(generated_maps, value), MALFORMED)

    def test_every_value(self):
        for value in odd_values():
            for maps in (value, [value], (value,), [(0,), value], [value, (0, 1)]):
                self.assertEqual(error_of(generated_maps, maps), None if right_maps(maps) else MALFORMED)

    def test_arguments_stay(self):
        maps = [(1, 0), (0, 0)]
        generated_maps(maps)
        reset_word(maps)
        merging_word(maps, 0, 1)
        self.assertEqual(maps, [(1, 0), (0, 0)])


class RightRegular(unittest.TestCase):
    def test_definition(self):
        for s in SAMPLES:
            every = range(s.n)
            unit = any(all(s.table[e][x] == x == s.table[x][e] for x in every) for e in every)
            wanted = []
            for x in every:
                points = [s.table[t][x] for t in every]
                wanted.append(tuple(points if unit else points + [x]))
            found = right_regular(s)
            self.assertEqual(found, tuple(wanted))
            self.assertEqual(len(set(found)), s.n)
            for x, y in product(every, repeat=2):
                self.assertEqual(then(found[x], found[y]), found[s.table[x][y]])
                self.assertEqual(composed(found[x], found[y]), found[s.table[x][y]])

    def test_numbers_of_points(self):
        self.assertEqual(right_regular(Semigroup([[0]])), ((0,),))
        self.assertEqual(right_regular(left_zero(2)), ((0, 1, 0), (0, 1, 1)))
        self.assertEqual({len(f) for f in right_regular(null_semigroup(24))}, {25})
        for s in LARGER:
            self.assertEqual({len(f) for f in right_regular(s)}, {s.n + (s.unit() is None)})


class Resets(unittest.TestCase):
    def first(self, maps, ends, longest):
        for word in words_up_to(len(maps), longest):
            if ends(map_of(maps, word)):
                return word
        return None

    def check(self, maps, longest):
        """Compare with the first words of all of at most this length; it is enough for the maps that are checked."""
        constant = any(len(set(f)) == 1 for f in closure(maps))
        self.assertIs(is_synchronizing(maps), constant)
        word = self.first(maps, lambda f: len(set(f)) == 1, longest)
        self.assertEqual(word is not None, constant)
        self.assertEqual(reset_word(maps), word)
        for i, j in product(range(len(maps[0])), repeat=2):
            if i != j:
                wanted = self.first(maps, lambda f: f[i] == f[j], longest)
                self.assertEqual(merging_word(maps, i, j), wanted)
        merging = [merging_word(maps, i, j) for i, j in combinations(range(len(maps[0])), 2)]
        self.assertIs(all(word is not None for word in merging), constant)

    def test_example(self):
        self.assertEqual(reset_word(((1, 2, 0), (1, 1, 2))), (1, 0, 0, 1))

    def test_pairs_of_three_points(self):
        for f in TRANSFORMATIONS_3:
            self.check([f], 4)
        for maps in list(product(TRANSFORMATIONS_3, repeat=2))[::2]:
            self.check(maps, 4)

    def test_three_maps_of_two_and_three_points(self):
        for maps in product(product(range(2), repeat=2), repeat=3):
            self.check(maps, 2)
        for maps in list(product(TRANSFORMATIONS_3, repeat=3))[::97]:
            self.check(list(maps), 4)

    def test_four_points(self):
        self.check([(1, 2, 3, 0), (1, 1, 2, 3)], 9)
        self.check([(0, 0, 3, 3), (3, 1, 2, 0)], 9)
        self.check([(1, 2, 3, 0), (3, 2, 1, 0)], 5)

    def test_one_point(self):
        for maps in ([(0,)], ((0,), (0,), (0,))):
            self.assertIs(is_synchronizing(maps), True)
            self.assertEqual(reset_word(maps), (0,))

    def test_the_least_of_the_shortest(self):
        self.assertEqual(reset_word([(0, 1), (1, 0), (1, 1), (0, 0)]), (2,))
        self.assertEqual(merging_word([(0, 1, 2), (0, 0, 1), (1, 1, 1)], 1, 2), (2,))
        self.assertEqual(merging_word([(0, 1, 2), (0, 0, 1)], 2, 1), (1, 1))
        self.assertEqual(merging_word([(0, 1, 2), (0, 0, 1)], 0, 1), (1,))

    def test_eight_points(self):
        turn = (1, 2, 3, 4, 5, 6, 7, 0)
        maps = [turn, (1, 1, 2, 3, 4, 5, 6, 7)]
        word = reset_word(maps)
        # This is the automaton of Cerny, whose shortest reset words are known to have this length.
        self.assertEqual(len(word), 49)
        self.assertEqual(word, ((1,) + (0,) * 7) * 6 + (1,))
        self.assertEqual(len(set(map_of(maps, word))), 1)
        self.assertEqual(merging_word(maps, 1, 0), (1,))
        self.assertEqual(merging_word(maps, 4, 0), merging_word(maps, 0, 4))
        self.assertEqual(len({map_of(maps, merging_word(maps, 0, 4))[point] for point in (0, 4)}), 1)
        self.assertEqual(reset_word([turn]), None)
        self.assertIs(is_synchronizing([turn, turn]), False)
        self.assertEqual(merging_word([turn], 0, 7), None)
        self.assertIs(is_synchronizing(maps), True)

    def test_malformed_maps(self):
        wrong = [
            [], (), [()], [[0]], [(0,), (0, 1)], [(0, 2)], [(0, -1)], [(1, 0), (0, -1)], [(-1, -1)], [(0, True)],
            [(False,)], [0], "0", None, 0, True, [(0,) * 9], [None], [(0, "1")], {(0, 1): 1}, (0, 1),
            Semigroup([[0]]), [(0, 10 ** 5000)],
        ]
        for maps in wrong:
            self.assertEqual(error_of(is_synchronizing, maps), MALFORMED)
            self.assertEqual(error_of(reset_word, maps), MALFORMED)
            self.assertEqual(error_of(merging_word, maps, 0, 1), MALFORMED)

    def test_malformed_points(self):
        maps = [(1, 0, 2), (0, 0, 2)]
        for points in ((0, 0), (2, 2), (0, 3), (3, 0), (-1, 0), (0, -1), (True, 0), (0, True), (None, 0), (0, None),
                       ("0", 1), (0, "1"), ((0,), 1), ([0], 1), (10 ** 5000, 0), (0, -10 ** 5000), (False, 1)):
            self.assertEqual(error_of(merging_word, maps, *points), MALFORMED)
        self.assertEqual(error_of(merging_word, [(0,)], 0, 0), MALFORMED)
        self.assertEqual(error_of(merging_word, [(0,)], 0, 1), MALFORMED)

    def test_every_value(self):
        for value in odd_values():
            right = right_maps(value) and all(map(transformation, value))
            self.assertEqual(error_of(is_synchronizing, value), None if right else MALFORMED)
            self.assertEqual(error_of(reset_word, value), None if right else MALFORMED)
            if not right:
                self.assertEqual(error_of(merging_word, value, 0, 1), MALFORMED)
            for points in ((value, 1), (1, value)):
                point = is_number(value) and value in (0, 2)
                self.assertEqual(error_of(merging_word, [(1, 2, 0)], *points), None if point else MALFORMED)
