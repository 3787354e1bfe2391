"""Counting homomorphisms without listing them, since there can be very many (for point 8.2)."""

from reesblocks.parts import index_and_period
from reesblocks.relations import Words, unknowns_in
from reesblocks.rules import generators_and_rules
from reesblocks.twins import twins
from reesblocks.whole import bits_of, classes_of


def homomorphisms_up_to(a, b, most):
    """Return the number of homomorphisms from a to b, or most + 1 if there are more than that."""
    generators, rules = generators_and_rules(a)
    told = [index_and_period(b, v) for v in range(b.n)]
    choices = {}
    for x, g in enumerate(generators):
        index, period = index_and_period(a, g)
        choices[x] = bits_of([i <= index and period % d == 0 for i, d in told])
    return Count(b, len(generators), most).ways(choices, {}, rules)


class Count:
    """A count of the ways to give unknowns, the generators of a semigroup, values in the semigroup b.

    The unknowns are told by a dict `choices` of their possible values (as bits), a dict `bonds` of the relations of
    pairs of them, and a list `rules` of pairs of words of three or more of them that must be equal.
    """

    def __init__(self, b, many, most):
        self.words = Words(b)
        self.many = many
        self.most = most
        self.twins = twins(b)
        self.sets = {}
        self.shapes = {}
        self.counted = {}

    def ways(self, choices, bonds, rules):
        """Return the number of ways, or most + 1 if there are more; the two dicts are changed."""
        rules = self._settled(choices, bonds, rules)
        if rules is None:
            return 0
        total = 1
        for part in self._parts(choices, bonds, rules):
            many = self._ways_of_part(*part)
            if many == 0:
                return 0
            total = min(total * many, self.most + 1)
        return total

    def _settled(self, choices, bonds, rules):
        """Draw conclusions, and return the rules that are left, or None if there is no way."""
        changed = True
        while changed:
            if not _narrow(choices, bonds):
                return None
            left_over, changed = {}, False
            for one, other in rules:
                left, right = self.words.put_in(one, choices), self.words.put_in(other, choices)
                unknowns = unknowns_in(left, right)
                if len(unknowns) > 2:
                    left_over[(left, right)] = True
                elif left != right:
                    changed = True
                    if not self._bind(choices, bonds, unknowns, left, right):
                        return None
            rules = [rule for rule in left_over if rule[0] != rule[1]]
        return rules

    def _bind(self, choices, bonds, unknowns, left, right):
        """Make two unlike words of at most two unknowns equal, and tell whether this is possible."""
        if len(unknowns) == 2:
            x, y = unknowns
            relation = self.words.relation(left, right, x, y)
            bonds[(x, y)] = self.words.both(relation, bonds[(x, y)]) if (x, y) in bonds else relation
            return True
        if not unknowns:
            return False
        x = unknowns[0]
        choices[x] &= self.words.allowed(left, right, x)
        return choices[x] != 0

    def _parts(self, choices, bonds, rules):
        """Return the list of the parts that nothing binds to each other: their choices, bonds and rules."""
        pairs = list(bonds)
        firsts = []
        for left, right in rules:
            unknowns = unknowns_in(left, right)
            firsts.append(unknowns[0])
            pairs.extend([(unknowns[0], x) for x in unknowns])
        classes = classes_of(pairs, self.many)
        parts = {}
        for x, some in choices.items():
            parts.setdefault(classes[x], ({}, {}, []))[0][x] = some
        for pair, relation in bonds.items():
            parts[classes[pair[0]]][1][pair] = relation
        for first, rule in zip(firsts, rules):
            parts[classes[first]][2].append(rule)
        return list(parts.values())

    def _ways_of_part(self, choices, bonds, rules):
        """Return the number of ways of a part, or most + 1 if there are more."""
        if not bonds and not rules:
            return len(self._values_in(list(choices.values())[0]))
        numbers = sorted([(pair, relation.label) for pair, relation in bonds.items()])
        shape = (tuple(choices), tuple(numbers), tuple(rules))
        # The same part is met again and again, so it is counted once; there can be very many parts of one shape.
        key = (self.shapes.setdefault(shape, len(self.shapes)), tuple(choices.values()))
        if key not in self.counted:
            self.counted[key] = self._tried(choices, bonds, rules)
        return self.counted[key]

    def _tried(self, choices, bonds, rules):
        """Return the number of ways of a part, or most + 1 if there are more, by trying the values of one unknown."""
        x = self._chosen(choices, bonds, rules)
        total = 0
        for v, many in self._unlike_values(x, choices, bonds, rules):
            total += many * self.ways({**choices, x: 1 << v}, dict(bonds), rules)
            if total > self.most:
                return self.most + 1
        return total

    def _chosen(self, choices, bonds, rules):
        """Return the unknown whose values are tried: one with few values that much depends on."""
        weights = {x: 1 for x in choices}
        for x, y in bonds:
            weights[x] += 1
            weights[y] += 1
        for left, right in rules:
            for x in unknowns_in(left, right):
                weights[x] += 1
        costs = [(len(self._values_in(some)) * 1000 // weights[x], x) for x, some in choices.items()]
        least = min(costs)[0]
        best = [x for cost, x in costs if cost == least]
        # In a row of unknowns the middle one cuts the others in two parts.
        return best[len(best) // 2]

    def _unlike_values(self, x, choices, bonds, rules):
        """Return pairs of a value of x and the number of those that give as many ways, being exchangeable with it."""
        masks = sorted(set(list(choices.values())))
        swaps = {}
        for relation in bonds.values():
            swaps[relation.label] = relation.exchangeable()
        if rules:
            # An element in a rule stays where it is, so it cannot be exchanged there.
            used = sorted({-1 - letter for left, right in rules for letter in left + right if letter < 0})
            swaps[-1] = [-1 - v if v in used else twin for v, twin in enumerate(self.twins)]
        groups = {}
        for v in self._values_in(choices[x]):
            sign = [mask >> v & 1 for mask in masks] + [classes[v] for classes in swaps.values()]
            groups.setdefault(tuple(sign), []).append(v)
        return [(group[0], len(group)) for group in groups.values()]

    def _values_in(self, bits):
        """Return the ascending tuple of the values that these bits tell."""
        if bits not in self.sets:
            self.sets[bits] = tuple([v for v in range(bits.bit_length()) if bits >> v & 1])
        return self.sets[bits]


def _narrow(choices, bonds):
    """Take away the values that some bond forbids, and the bonds that forbid nothing; tell whether all have values."""
    again = True
    while again:
        again = False
        for (x, y), relation in list(bonds.items()):
            one, other = choices[x], choices[y]
            some, every = relation.seconds(one)
            choices[y] = other & some
            choices[x] = one & relation.firsts(choices[y])[0]
            if choices[x] == 0:
                return False
            if choices[x] != one or choices[y] != other:
                again = True
            elif other & ~every == 0:
                del bonds[(x, y)]
    return True
