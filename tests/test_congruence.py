import unittest
from itertools import product

from reesblocks.build import (
    brandt, cyclic_group, direct_product, left_zero, monogenic, null_semigroup, rectangular_band, right_zero, with_unit,
    with_zero,
)
from reesblocks.congruence import (
    chain, class_numbers, congruences, generated, is_congruence, least_with, quotient, value_of,
)
from reesblocks.semigroup import Semigroup
from samples import (
    ALL_MAPS_OF_2, BAND_24, BRANDT_4, CHAIN_24, CYCLIC_24, INVERSE_MONOID_2, LEFT_ZERO_24, MALFORMED, MONOGENIC_24,
    NULL_24, ORDERED_MAPS_OF_3, SIXTEEN_TWOS, SMALL, SYMMETRIC_GROUP_4, by_rule, equivalences, error_of, is_number,
    odd_values,
)

MANY = ("Refused", "many")
EQUIVALENCES = {n: equivalences(n) for n in range(1, 6)}
MIDDLE = [
    ALL_MAPS_OF_2, brandt(2), monogenic(3, 2), monogenic(2, 4), with_unit(left_zero(3)), with_zero(cyclic_group(4)),
    direct_product(cyclic_group(2), left_zero(2)), rectangular_band(2, 2), null_semigroup(5), by_rule(5, min),
    with_unit(with_zero(right_zero(3))),
]
WORDS = ["x", "y", "z", "xx", "xy", "yx", "xyx", "xyz", "zyx", "xxyy", "xyzxyzxyzxyz"]


def stacked(a, b):
    """Both semigroups in one, in which the product of one element of each is that of b."""
    def times(x, y):
        if x < a.n and y < a.n:
            return a.table[x][y]
        return max(x, y) if min(x, y) < a.n else a.n + b.table[x - a.n][y - a.n]

    return by_rule(a.n + b.n, times)


def keeps(s, classes):
    """Whether an equivalence is a congruence, by its definition."""
    every = range(s.n)
    return all(
        classes[s.table[x][z]] == classes[s.table[y][z]] and classes[s.table[z][x]] == classes[s.table[z][y]]
        for x in every for y in every if classes[x] == classes[y] for z in every
    )


def below(one, two):
    """Whether what is equivalent in the first equivalence is so in the second one."""
    every = range(len(one))
    return all(two[x] == two[y] for x in every for y in every if one[x] == one[y])


def all_congruences(s):
    return [classes for classes in EQUIVALENCES[s.n] if keeps(s, classes)]


def least(found):
    """The only one that is below all others."""
    only = [one for one in found if all(below(one, other) for other in found)]
    assert len(only) == 1
    return only[0]


def times(s, left, x, right):
    x = x if left == -1 else s.table[left][x]
    return x if right == -1 else s.table[x][right]


def where_it_leads(s, pairs, steps, x):
    """The element to which a chain leads from x; it fails for a step that does not begin where it stands."""
    for step in steps:
        assert isinstance(step, tuple) and all(is_number(part) for part in step)
        left, i, right, turned = step
        assert turned in (0, 1) and 0 <= i < len(pairs) and -1 <= min(left, right) and max(left, right) < s.n
        start, end = (pairs[i][1], pairs[i][0]) if turned else pairs[i]
        assert times(s, left, start, right) == x
        x = times(s, left, end, right)
    return x


def distance(s, pairs, x, y):
    """The least number of steps from x to y, or None."""
    factors = range(-1, s.n)
    edges = {(times(s, p, a, q), times(s, p, b, q)) for a, b in pairs for p in factors for q in factors}
    edges |= {(end, start) for start, end in edges}
    reached, steps = {x}, 0
    while y not in reached:
        more = reached | {end for start, end in edges if start in reached}
        if more == reached:
            return None
        reached, steps = more, steps + 1
    return steps


def worked_out(s, word, values):
    found = None
    for letter in word:
        x = values[ord(letter) - ord("x")]
        found = x if found is None else s.table[found][x]
    return found


class Telling(unittest.TestCase):
    def test_all_equivalences(self):
        for s in SMALL + MIDDLE:
            for n in (s.n - 1, s.n, s.n + 1):
                for classes in EQUIVALENCES.get(n, []):
                    self.assertIs(is_congruence(s, classes), n == s.n and keeps(s, classes))

    def test_all_tuples(self):
        for s in SMALL:
            for value in product(range(-1, s.n + 1), repeat=s.n):
                wanted = value in EQUIVALENCES[s.n] and keeps(s, value)
                self.assertIs(is_congruence(s, value), wanted)
                self.assertIs(is_congruence(s, list(value)), False)

    def test_every_value(self):
        for s in (Semigroup([[0]]), null_semigroup(2), NULL_24):
            for value in odd_values():
                right = isinstance(value, tuple) and len(value) == s.n and all(is_number(x) for x in value)
                self.assertIs(is_congruence(s, value), right and value in EQUIVALENCES.get(s.n, []))
        self.assertIs(is_congruence(NULL_24, (0,) * 24), True)
        self.assertIs(is_congruence(NULL_24, (0,) * 23 + (False,)), False)
        self.assertIs(is_congruence(null_semigroup(2), (0, True)), False)


class Generating(unittest.TestCase):
    def test_least_with_the_pairs(self):
        for s in SMALL + MIDDLE:
            every = all_congruences(s)
            pairs = list(product(range(s.n), repeat=2))
            some = [[pair] for pair in pairs] + [[one, two] for one in pairs[1::3] for two in pairs[::2]] + [[]]
            for chosen in some:
                wanted = least([classes for classes in every if all(classes[x] == classes[y] for x, y in chosen)])
                self.assertEqual(generated(s, chosen), wanted)
                self.assertEqual(generated(s, tuple(chosen)), wanted)

    def test_examples(self):
        self.assertEqual(generated(cyclic_group(4), [(0, 2)]), (0, 1, 0, 1))
        self.assertEqual(generated(CYCLIC_24, [(3, 9)]), tuple(x % 6 for x in range(24)))
        self.assertEqual(generated(CYCLIC_24, [(3, 9), (1, 5)]), tuple(x % 2 for x in range(24)))
        self.assertEqual(generated(CHAIN_24, [(5, 8)]), (0, 1, 2, 3, 4, 5, 5, 5, 5, *range(9, 24)))
        self.assertEqual(generated(LEFT_ZERO_24, [(23, 4)]), (*range(23), 4))
        self.assertEqual(generated(BRANDT_4, [(0, 1)]), (0,) * 17)
        self.assertEqual(generated(SYMMETRIC_GROUP_4, ()), tuple(range(24)))

    def test_malformed(self):
        s = null_semigroup(3)
        wrong = [
            [[0, 1]], [(0, 1), [1, 2]], [(0,)], [(0, 1, 2)], [(0, 3)], [(-1, 0)], [(0, True)], [(False, 0)], [(0, None)],
            [("0", 1)], [()], (0, 1), [0], {(0, 1): 1}, "ab", None, 0, [(0, (1,))],
        ]
        for pairs in wrong:
            self.assertEqual(error_of(generated, s, pairs), MALFORMED)
            self.assertEqual(error_of(chain, s, pairs, 0, 0), MALFORMED)


class Chains(unittest.TestCase):
    def check(self, s, pairs, x, y):
        found, wanted = chain(s, pairs, x, y), distance(s, pairs, x, y)
        if wanted is None:
            self.assertIsNone(found)
        else:
            self.assertIsInstance(found, tuple)
            self.assertEqual(len(found), wanted)
            self.assertEqual(where_it_leads(s, pairs, found, x), y)
        self.assertIs(found is not None, generated(s, pairs)[x] == generated(s, pairs)[y])

    def test_small_ones(self):
        for s in SMALL[1::3] + MIDDLE:
            pairs = list(product(range(s.n), repeat=2))
            for chosen in [[], [pairs[-2]], [pairs[1], pairs[-1]], pairs[1:4], (pairs[s.n], pairs[0], pairs[s.n])]:
                for x, y in product(range(s.n), repeat=2):
                    self.check(s, chosen, x, y)

    def test_examples(self):
        self.assertEqual(len(chain(cyclic_group(4), [(0, 2)], 1, 3)), 1)
        self.assertEqual(chain(cyclic_group(4), [(0, 2)], 1, 1), ())
        self.assertIsNone(chain(cyclic_group(4), [(0, 2)], 1, 2))
        self.assertEqual(chain(left_zero(3), [(2, 1)], 1, 2)[0][1:], (0, -1, 1))
        self.assertEqual(chain(null_semigroup(3), [(1, 2)], 1, 2), ((-1, 0, -1, 0),))
        self.assertEqual(chain(null_semigroup(3), [(1, 2)], 2, 1), ((-1, 0, -1, 1),))
        self.assertEqual(chain(null_semigroup(3), [], 2, 2), ())
        self.assertIsNone(chain(null_semigroup(3), (), 2, 1))

    def test_24(self):
        for s in (CYCLIC_24, MONOGENIC_24, CHAIN_24, BAND_24, SYMMETRIC_GROUP_4):
            for pairs in ([(0, 1)], [(5, 17), (3, 3)], [(2, 6), (7, 20), (1, 23)]):
                for x, y in ((0, 23), (13, 4), (8, 9), (6, 6)):
                    self.check(s, pairs, x, y)
        steps = [(x, x + 1) for x in range(23)]
        self.assertEqual(len(chain(NULL_24, steps, 0, 23)), 23)
        self.assertEqual(chain(NULL_24, steps, 23, 20), ((-1, 22, -1, 1), (-1, 21, -1, 1), (-1, 20, -1, 1)))
        self.assertEqual(len(chain(CYCLIC_24, [(0, 1)] * 5000 + [(0, 12)], 3, 15)), 1)

    def test_malformed(self):
        s = null_semigroup(3)
        for x, y in ((0, 3), (3, 0), (-1, 0), (0, -1), (True, 1), (1, False), (None, 0), (0, "1"), (0, (1,))):
            self.assertEqual(error_of(chain, s, [(0, 1)], x, y), MALFORMED)


class Quotients(unittest.TestCase):
    def test_numbers(self):
        for n, found in EQUIVALENCES.items():
            for classes in found:
                leaders = sorted(set(classes))
                self.assertEqual(class_numbers(classes), tuple(leaders.index(x) for x in classes))
        self.assertEqual(class_numbers((0, 0, 2, 0, 4, 2)), (0, 0, 1, 0, 2, 1))

    def test_quotients(self):
        for s in SMALL + MIDDLE:
            for classes in EQUIVALENCES[s.n]:
                if not keeps(s, classes):
                    self.assertEqual(error_of(quotient, s, classes), MALFORMED)
                    continue
                found, numbers = quotient(s, classes), class_numbers(classes)
                self.assertIsInstance(found, Semigroup)
                self.assertEqual(found.n, len(set(classes)))
                for x, y in product(range(s.n), repeat=2):
                    self.assertEqual(found.table[numbers[x]][numbers[y]], numbers[s.table[x][y]])

    def test_examples(self):
        self.assertEqual(quotient(CYCLIC_24, tuple(x % 6 for x in range(24))), cyclic_group(6))
        self.assertEqual(quotient(CYCLIC_24, tuple(range(24))), CYCLIC_24)
        self.assertEqual(quotient(CYCLIC_24, (0,) * 24), Semigroup([[0]]))

    def test_malformed(self):
        for value in odd_values():
            right = is_congruence(NULL_24, value)
            self.assertEqual(error_of(quotient, NULL_24, value), None if right else MALFORMED)
        self.assertEqual(error_of(quotient, cyclic_group(4), (0, 0, 2, 2)), MALFORMED)
        self.assertEqual(error_of(quotient, cyclic_group(4), [0, 1, 0, 1]), MALFORMED)
        self.assertEqual(error_of(quotient, cyclic_group(4), (0, True, 0, True)), MALFORMED)


class All(unittest.TestCase):
    def test_complete_and_ascending(self):
        for s in SMALL + MIDDLE:
            self.assertEqual(congruences(s), tuple(all_congruences(s)))

    def test_examples(self):
        self.assertEqual(congruences(left_zero(3)), ((0, 0, 0), (0, 0, 2), (0, 1, 0), (0, 1, 1), (0, 1, 2)))
        self.assertEqual(congruences(Semigroup([[0]])), ((0,),))
        self.assertEqual(congruences(cyclic_group(2)), ((0, 0), (0, 1)))

    def test_numbers(self):
        told = [
            (CYCLIC_24, 8), (SYMMETRIC_GROUP_4, 4), (BRANDT_4, 2), (ORDERED_MAPS_OF_3, 3), (INVERSE_MONOID_2, 4),
            (Semigroup(SIXTEEN_TWOS), 67), (rectangular_band(4, 4), 225), (rectangular_band(4, 5), 780),
            (left_zero(7), 877), (null_semigroup(7), 877), (by_rule(10, min), 512), (MONOGENIC_24, 40),
        ]
        for s, many in told:
            found = congruences(s)
            self.assertEqual(len(found), many)
            self.assertEqual(list(found), sorted(set(found)))
            self.assertTrue(all(keeps(s, classes) for classes in found[:60]))
            self.assertEqual((found[0], found[-1]), ((0,) * s.n, tuple(range(s.n))))

    def test_many(self):
        for s in (
            left_zero(8), right_zero(8), null_semigroup(8), by_rule(11, min), LEFT_ZERO_24, NULL_24, CHAIN_24, BAND_24,
            rectangular_band(3, 8),
        ):
            self.assertEqual(error_of(congruences, s), MANY)

    def test_exactly_1000_and_one_more(self):
        s = with_unit(stacked(stacked(monogenic(3, 2), rectangular_band(2, 4)), monogenic(2, 3)))
        self.assertEqual(len(set(congruences(s))), 1000)
        # This one has 1001.
        s = direct_product(with_zero(left_zero(3)), with_unit(right_zero(4)))
        self.assertEqual(error_of(congruences, s), MANY)


class Words(unittest.TestCase):
    def test_values(self):
        for s in SMALL[::7] + [ALL_MAPS_OF_2, brandt(2)]:
            for word in WORDS:
                for values in product(range(s.n), repeat=3):
                    self.assertEqual(value_of(s, word, values), worked_out(s, word, values))
                    self.assertEqual(value_of(s, word, list(values)), worked_out(s, word, values))
        self.assertEqual(value_of(CYCLIC_24, "xyzzx", (1, 10, 5)), 22)
        self.assertEqual(value_of(CYCLIC_24, "z" * 12, [0, 0, 1]), 12)

    def test_malformed(self):
        s = null_semigroup(2)
        for word in ("", "a", "xa", "X", "x y", "x" * 13, "xy\n", None, 0, True, ("x",), ["x"], b"x", "\u0445"):
            self.assertEqual(error_of(value_of, s, word, (0, 0, 0)), MALFORMED)
            self.assertEqual(error_of(least_with, s, [(word, "x")]), MALFORMED)
            self.assertEqual(error_of(least_with, s, [("x", "y"), ("x", word)]), MALFORMED)
        for values in ((0, 0), (0, 0, 0, 0), (0, 0, 2), (0, -1, 0), (0, True, 0), (0, 0, None), 0, None, "000", (), [[0], 0, 0]):
            self.assertEqual(error_of(value_of, s, "x", values), MALFORMED)
            self.assertEqual(error_of(value_of, s, "yz", values), MALFORMED)
        for value in odd_values():
            right = isinstance(value, (list, tuple)) and len(value) == 3 and all(is_number(x) for x in value)
            wanted = None if right and set(value) <= {0, 1, 2} else MALFORMED
            self.assertEqual(error_of(value_of, null_semigroup(3), "x", value), wanted)
            self.assertEqual(error_of(value_of, s, value, (0, 0, 0)), MALFORMED)
            self.assertEqual(error_of(least_with, s, value), None if value in ([], ()) else MALFORMED)
        for identities in ([["x", "y"]], [("x",)], [("x", "y", "z")], ("x", "y"), "xy", {("x", "y"): 1}, None, 0, [None]):
            self.assertEqual(error_of(least_with, s, identities), MALFORMED)

    def test_least_with(self):
        identities = [("xy", "yx"), ("xx", "x"), ("xyx", "x"), ("x", "y"), ("xxx", "x"), ("xyz", "zyx"), ("zz", "zzz")]
        for s in SMALL + MIDDLE:
            triples = list(product(range(s.n), repeat=3))
            every = all_congruences(s)
            for chosen in [[one] for one in identities] + [[], identities[:2], identities[4:]]:
                fit = [
                    classes for classes in every
                    if all(classes[worked_out(s, left, values)] == classes[worked_out(s, right, values)]
                           for left, right in chosen for values in triples)
                ]
                self.assertEqual(least_with(s, chosen), least(fit))
                self.assertEqual(least_with(s, tuple(chosen)), least(fit))

    def test_least_with_24(self):
        self.assertEqual(least_with(CYCLIC_24, [("xy", "yx")]), tuple(range(24)))
        self.assertEqual(least_with(CYCLIC_24, [("x" * 7, "x")]), tuple(x % 6 for x in range(24)))
        self.assertEqual(len(set(least_with(SYMMETRIC_GROUP_4, [("xy", "yx")]))), 2)
        self.assertEqual(least_with(BAND_24, [("xyz", "xz"), ("xy", "x")]), tuple(x // 4 * 4 for x in range(24)))
        self.assertEqual(least_with(NULL_24, [("zx", "y")]), (0,) * 24)
        long = ("xyzxyzxyzxyz", "zyxzyxzyxzyx")
        self.assertEqual(len(set(least_with(SYMMETRIC_GROUP_4, [long] * 5))), 2)
