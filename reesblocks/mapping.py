"""Searching the homomorphisms from one semigroup to another one (for points 6.1 and 6.2)."""

from reesblocks.errors import Refused
from reesblocks.parts import index_and_period
from reesblocks.shapes import shapes
from reesblocks.twins import twins
from reesblocks.whole import bits_of

FREE = -1


class Search:
    """A search of all homomorphisms from a to b, or of all one-to-one ones.

    Elements of a are given images one after the other. A state of the search has two lists: `choices` has for each
    element of a an integer whose bits are the images that are not ruled out, and `images` its image or -1.
    """

    def __init__(self, a, b, one_to_one, most):
        self.rows = a.table
        self.columns = list(zip(*a.table))
        self.makers = _places_of_products(a)
        self.factors = Factors(b)
        classes = twins(b)
        self.twins = [bits_of([one == other for other in classes]) for one in classes]
        self.siblings = _siblings(a)
        self.one_to_one = one_to_one
        # At most so many are wanted; without a number the first one is.
        self.most = most
        self.total = 0
        self.urgent = None
        self.failures = [0] * a.n
        self.sets = {}

    def begun(self, choices):
        """Return the state in which these images are not ruled out, or None if nothing is left."""
        choices, images = list(choices), [FREE] * len(choices)
        single = [x for x, some in enumerate(choices) if len(self.values_in(some)) == 1]
        if 0 in choices or not self._settle(choices, images, single) or self._is_crowded(choices, images):
            return None
        return choices, images

    def placed(self, state, x, v):
        """Return the state after one more element has been given its image, or None if nothing is left."""
        choices, images = list(state[0]), list(state[1])
        choices[x] = 1 << v
        if not self._settle(choices, images, [x]) or self._is_crowded(choices, images):
            return None
        return choices, images

    def completions(self, state):
        """Return the list of the wanted homomorphisms that belong to a state."""
        if state is None:
            return []
        choices, images = list(state[0]), state[1]
        free = [x for x, image in enumerate(images) if image == FREE]
        if len(free) < 2:
            return self._last_ones(choices, images, free)
        used = bits_of([v in images for v in range(len(self.twins))])
        found = []
        firsts = {}
        x = self._chosen(choices, images, free)
        while choices[x]:
            v = self.values_in(choices[x])[0]
            # Nothing tells an image from its twins as long as none of them is used: each gives as many completions.
            like = 1 << v if used >> v & 1 else self.twins[v] & ~used
            if like in firsts:
                part = self._exchanged(firsts[like][1], firsts[like][0], v)
            else:
                part = self.completions(self.placed((choices, images), x, v))
                firsts[like] = (v, part)
            found.extend(part)
            choices[x] &= ~(1 << v)
            if found and self.most is None:
                return found
            if not found:
                self._rule_out(choices, images, x, like)
                # Another element may show that nothing is left here, whatever image this one gets.
                x = self._chosen(choices, images, free)
                firsts = {}
        if not found:
            self.urgent = x
            self.failures[x] += 1
        return found

    def values_in(self, bits):
        """Return the ascending tuple of the places of the bits of an integer."""
        if bits not in self.sets:
            self.sets[bits] = tuple([v for v in range(bits.bit_length()) if bits >> v & 1])
        return self.sets[bits]

    def _chosen(self, choices, images, free):
        """Return the element that gets an image next."""
        # Where the search failed last it may fail again, whatever images others have: so that is found out first.
        if self.urgent is not None and images[self.urgent] == FREE:
            return self.urgent
        # Few images mean few cases; many failures mean that images of others before this one are tried in vain.
        costs = [len(self.values_in(choices[x])) * 1000 // (1 + self.failures[x]) for x in free]
        return min([(cost, -len(self.makers[x]), x) for cost, x in zip(costs, free)])[2]

    def _last_ones(self, choices, images, free):
        """Return the list of the homomorphisms of a state in which one element at most has no image."""
        # All products with it have been made use of, so each image that is left is a right one.
        found = [tuple(images)]
        for x in free:
            found = [tuple([*images[:x], v, *images[x + 1:]]) for v in self.values_in(choices[x])]
        self._add(len(found))
        return found

    def _exchanged(self, part, v, w):
        """Return the homomorphisms with v and w exchanged among the images."""
        self._add(len(part))
        return [tuple([w if u == v else v if u == w else u for u in images]) for images in part]

    def _rule_out(self, choices, images, x, bits):
        """Take note that x has none of these images: then nothing that may change places with x has one."""
        choices[x] &= ~bits
        for y in self.siblings[x]:
            if images[y] == FREE:
                choices[y] &= ~bits

    def _add(self, many):
        self.total += many
        if self.most is not None and self.total > self.most:
            raise Refused("many")

    def _settle(self, choices, images, waiting):
        """Give the waiting elements their only images, draw all conclusions, and tell whether something is left."""
        while waiting:
            x = waiting.pop()
            images[x] = self.values_in(choices[x])[0]
            for y, allowed in self._demands(images, x):
                left = choices[y] & allowed
                if left == 0:
                    return False
                if left != choices[y]:
                    choices[y] = left
                    if left & (left - 1) == 0:
                        waiting.append(y)
        return True

    def _demands(self, images, x):
        """Return what the image of x asks of other elements: pairs of an element and the images that it may have."""
        v = images[x]
        factors = self.factors
        found = _as_factor(images, self.rows[x], factors.rows[v], factors.behind[v], factors.kept_behind[v])
        found.extend(_as_factor(images, self.columns[x], factors.columns[v], factors.ahead[v], factors.kept_ahead[v]))
        for p, q in self.makers[x]:
            if images[p] != FREE:
                # If both have images, the product of these was the only one allowed for x.
                if images[q] == FREE:
                    found.append((q, factors.behind[images[p]][v]))
            elif images[q] != FREE:
                found.append((p, factors.ahead[images[q]][v]))
            elif p == q:
                found.append((p, factors.roots[v]))
        if self.one_to_one:
            found.extend([(y, ~(1 << v)) for y, image in enumerate(images) if y != x])
        return found

    def _is_crowded(self, choices, images):
        """Tell whether some elements without images have fewer images left in all than they are."""
        if not self.one_to_one:
            return False
        many = {}
        for some, image in zip(choices, images):
            if image == FREE:
                many[some] = many.get(some, 0) + 1
        for some in many:
            if sum([number for other, number in many.items() if other & ~some == 0]) > len(self.values_in(some)):
                return True
        return False


class Factors:
    """For each element and each product of it the other factors that are possible, told as the bits of integers.

    behind[v][u] has the w with v w = u, ahead[v][u] those with w v = u, kept_behind[v] those with v w = w,
    kept_ahead[v] those with w v = w, and roots[u] those with w w = u.
    """

    def __init__(self, s):
        self.rows = s.table
        self.columns = list(zip(*s.table))
        self.behind = [[0] * s.n for _ in range(s.n)]
        self.ahead = [[0] * s.n for _ in range(s.n)]
        self.roots = [0] * s.n
        for v, row in enumerate(s.table):
            for w, u in enumerate(row):
                self.behind[v][u] |= 1 << w
                self.ahead[w][u] |= 1 << v
            self.roots[row[v]] |= 1 << v
        self.kept_behind = [_kept(row) for row in self.rows]
        self.kept_ahead = [_kept(column) for column in self.columns]


def all_choices(a, b):
    """Return for each element of a the images in b that it can have in a homomorphism, told as bits."""
    told = [index_and_period(b, v) for v in range(b.n)]
    found = []
    for x in range(a.n):
        index, period = index_and_period(a, x)
        found.append(bits_of([i <= index and period % d == 0 for i, d in told]))
    return found


def one_to_one_choices(a, b):
    """Return for each element of a the images in b that it can have in a one-to-one homomorphism, told as bits."""
    if a.n == b.n:
        told, others = shapes(a, b)
    else:
        told, others = [[index_and_period(s, x) for x in range(s.n)] for s in (a, b)]
    return [bits_of([one == other for other in others]) for one in told]


def _as_factor(images, products, others, missing, kept):
    """Return what one factor asks: `products` are those of it in the one semigroup, `others` in the other one."""
    found = []
    for y, z in enumerate(products):
        if images[y] != FREE:
            if images[z] != others[images[y]]:
                found.append((z, 1 << others[images[y]]))
        elif images[z] != FREE:
            found.append((y, missing[images[z]]))
        elif y == z:
            found.append((y, kept))
    return found


def _places_of_products(s):
    """Return for each element the list of the pairs of factors with this product."""
    found = [[] for _ in range(s.n)]
    for x, row in enumerate(s.table):
        for y, z in enumerate(row):
            found[z].append((x, y))
    return found


def _siblings(s):
    """Return for each element the list of the others with which it can change places."""
    classes = twins(s)
    return [[y for y in range(s.n) if y != x and classes[y] == classes[x]] for x in range(s.n)]


def _kept(products):
    """Return the bits of the places that have themselves as items."""
    return bits_of([w == u for w, u in enumerate(products)])
