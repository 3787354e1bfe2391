"""Words of unknowns and elements, and what is asked of unknowns whose words must be equal (for point 8.2).

A word is a tuple of letters: the letter x from 0 on is an unknown, and the letter -1 - v is the element v. Sets of
elements are told as the bits of integers.
"""

from reesblocks.whole import bits_of, by_keys, classes_of


class Relation:
    """Which values two unknowns may have together: rows[v] has the bits of those of the second one beside v."""

    def __init__(self, label, rows):
        self.label = label
        self.rows = rows
        self.columns = [bits_of([row >> w & 1 for row in rows]) for w in range(len(rows))]
        self.beside_first = {}
        self.beside_second = {}
        self.swaps = None

    def seconds(self, values):
        """Return the values of the second unknown beside some of these of the first, and those beside all of them."""
        if values not in self.beside_first:
            self.beside_first[values] = _some_and_all(self.rows, values)
        return self.beside_first[values]

    def firsts(self, values):
        """Return the values of the first unknown beside some of these of the second, and those beside all of them."""
        if values not in self.beside_second:
            self.beside_second[values] = _some_and_all(self.columns, values)
        return self.beside_second[values]

    def exchangeable(self):
        """Return the equivalence of the values that can be exchanged, for both unknowns at once."""
        if self.swaps is None:
            n = len(self.rows)
            self.swaps = classes_of([(v, w) for w in range(n) for v in range(w) if self._can_swap(v, w)], n)
        return self.swaps

    def _can_swap(self, v, w):
        rest = ~(1 << v | 1 << w)
        if (self.rows[v] ^ self.rows[w]) & rest or (self.columns[v] ^ self.columns[w]) & rest:
            return False
        return self._has(v, v) == self._has(w, w) and self._has(v, w) == self._has(w, v)

    def _has(self, v, w):
        return self.rows[v] >> w & 1


class Words:
    """The words over the elements of one semigroup, and the relations that come from them."""

    def __init__(self, s):
        self.table = s.table
        columns = list(zip(*s.table))
        # Which elements are alike where they stand alone, as first, as last, and as other letters.
        self.alike = (tuple(range(s.n)), by_keys(s.table), by_keys(columns), by_keys(list(zip(s.table, columns))))
        self.only = {}
        self.single = {}
        self.double = {}
        self.relations = {}

    def put_in(self, word, choices):
        """Return the word with elements in the place of unknowns whose values are all alike there."""
        found = []
        for k, letter in enumerate(word):
            if letter >= 0:
                element = self._only_one(choices[letter])[_role(k, len(word))]
                letter = letter if element is None else -1 - element
            if letter < 0 and found and found[-1] < 0:
                found[-1] = -1 - self.table[-1 - found[-1]][-1 - letter]
            else:
                found.append(letter)
        return tuple([self._shown(letter, _role(k, len(found))) for k, letter in enumerate(found)])

    def allowed(self, left, right, x):
        """Return the values of the only unknown x for which two words are equal."""
        pair = _renamed(left, [x]), _renamed(right, [x])
        if pair not in self.single:
            ones, others = [self._values(word) for word in pair]
            self.single[pair] = bits_of([one == other for one, other in zip(ones, others)])
        return self.single[pair]

    def relation(self, left, right, x, y):
        """Return the relation of the two unknowns x and y for which two words are equal."""
        pair = _renamed(left, [x, y]), _renamed(right, [x, y])
        if pair not in self.double:
            rows = []
            for v in range(len(self.table)):
                choices = {0: 1 << v, 1: (1 << len(self.table)) - 1}
                one, other = [self.put_in(word, choices) for word in pair]
                rows.append(self.allowed(one, other, 1))
            self.double[pair] = self._relation_of(tuple(rows))
        return self.double[pair]

    def both(self, one, other):
        """Return the relation of the pairs of values that are in two relations."""
        return self._relation_of(tuple([row & more for row, more in zip(one.rows, other.rows)]))

    def _shown(self, letter, role):
        """Return the letter, or the first of the elements that are alike in this role if it is one of them."""
        return letter if letter >= 0 else -1 - self.alike[role][-1 - letter]

    def _only_one(self, values):
        """Return for each role of a letter one of these values if all of them are alike there, otherwise None."""
        if values not in self.only:
            found = []
            for classes in self.alike:
                labels = sorted({label for v, label in enumerate(classes) if values >> v & 1})
                found.append(labels[0] if len(labels) == 1 else None)
            self.only[values] = found
        return self.only[values]

    def _relation_of(self, rows):
        if rows not in self.relations:
            self.relations[rows] = Relation(len(self.relations), rows)
        return self.relations[rows]

    def _values(self, word):
        """Return the list of the values of a word, for each value of the unknown 0."""
        every = list(range(len(self.table)))
        rows = [every if letter >= 0 else [-1 - letter] * len(every) for letter in word]
        found = rows[0]
        for row in rows[1:]:
            found = [self.table[v][w] for v, w in zip(found, row)]
        return found


def unknowns_in(left, right):
    """Return the ascending list of the unknowns in two words."""
    return sorted({letter for letter in left + right if letter >= 0})


def _role(k, many):
    """Return the role of the letter k of a word: 0 alone, 1 the first, 2 the last, 3 another one."""
    if many == 1:
        return 0
    if k == 0:
        return 1
    return 2 if k == many - 1 else 3


def _some_and_all(rows, values):
    """Return the bits in some of the rows at these values, and those in all of them."""
    some, every = 0, -1
    for v, row in enumerate(rows):
        if values >> v & 1:
            some |= row
            every &= row
    return some, every


def _renamed(word, unknowns):
    """Return the word with the places of the unknowns in a list in the place of these."""
    return tuple([letter if letter < 0 else unknowns.index(letter) for letter in word])
