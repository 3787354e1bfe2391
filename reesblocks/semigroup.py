"""Semigroups, given by their tables, and their texts (points 1.1 to 1.3)."""

from reesblocks.errors import Malformed, NoText, Refused
from reesblocks.whole import is_below

MOST = 24


class Semigroup:
    """A semigroup of the numbers 0, .., n - 1; table[x][y] is the product of x and y."""

    def __init__(self, table):
        if not is_table(table):
            raise Malformed("the table is no square of numbers below its size")
        refuse_large(len(table))
        rows = tuple([tuple(row) for row in table])
        if not is_associative(rows):
            raise Refused("associative")
        self.n = len(rows)
        self.table = rows

    def __eq__(self, other):
        return isinstance(other, Semigroup) and self.table == other.table

    def __str__(self):
        return f"{self.n}: {_rows_text(self.table)}"

    def is_element(self, value):
        """Tell whether the value is an element."""
        return is_below(value, self.n)

    def multiply(self, x, y):
        """Return the product of two elements."""
        return self.table[x][y]

    def product(self, items):
        """Return the product of a list or tuple of one or more elements, in order."""
        value = items[0]
        for x in items[1:]:
            value = self.table[value][x]
        return value

    def power(self, x, k):
        """Return the product of k times x, for k from 1 on."""
        powers, start = unlike_powers(self, x)
        if k <= len(powers):
            return powers[k - 1]
        # k can be far too large for counting up to it.
        return powers[start + (k - 1 - start) % (len(powers) - start)]

    def idempotents(self):
        """Return the ascending tuple of the elements e with e e = e."""
        return tuple([e for e in range(self.n) if self.table[e][e] == e])

    def zero(self):
        """Return the element whose products are all itself, or None."""
        for z in range(self.n):
            if all([self.table[z][x] == z and self.table[x][z] == z for x in range(self.n)]):
                return z
        return None

    def unit(self):
        """Return the element whose products are all the other factor, or None."""
        for e in range(self.n):
            if all([self.table[e][x] == x and self.table[x][e] == x for x in range(self.n)]):
                return e
        return None


def is_table(value):
    """Tell whether the value is a list or tuple of n lists or tuples of n elements, n from 1 on."""
    if not isinstance(value, (list, tuple)) or len(value) == 0:
        return False
    n = len(value)
    for row in value:
        if not isinstance(row, (list, tuple)) or len(row) != n:
            return False
        if not all([is_below(x, n) for x in row]):
            return False
    return True


def is_associative(rows):
    """Tell whether (x y) z = x (y z) for all elements."""
    for row in rows:
        for y, behind in enumerate(rows):
            if rows[row[y]] != tuple([row[z] for z in behind]):
                return False
    return True


def refuse_large(many):
    """Raise Refused("large") for more elements than a semigroup may have here."""
    if many > MOST:
        raise Refused("large")


def unlike_powers(s, x):
    """Return the list of the unlike powers x, x^2, .., and the place in it of the power behind its last one."""
    powers = [x]
    after = s.table[x][x]
    while after not in powers:
        powers.append(after)
        after = s.table[after][x]
    return powers, powers.index(after)


def read_semigroup(text):
    """Return the semigroup with this text; raise NoText(0) if there is none."""
    if not isinstance(text, str):
        raise NoText(0)
    body = text.partition(": ")[2]
    table = [[_number_of(word) for word in row.split(" ")] for row in body.split("; ")]
    try:
        found = Semigroup(table)
    except (Malformed, Refused):
        raise NoText(0) from None
    # Leading zeros and whatever stands before the colon were read over; a semigroup has one text only.
    if str(found) != text:
        raise NoText(0)
    return found


def _rows_text(rows):
    return "; ".join([" ".join([str(x) for x in row]) for row in rows])


def _number_of(word):
    """Return the number with these one or two digits, or None."""
    # Longer words are numbers of no element, and the longest ones could not be converted.
    if len(word) <= 2 and word.isascii() and word.isdigit():
        return int(word)
    return None
