"""Identities of a semigroup, and the classes of equal words (points 5.5, 7.4 and 7.5)."""

from reesblocks.congruence import LETTERS, all_values, is_word
from reesblocks.errors import Malformed
from reesblocks.parts import index_and_period
from reesblocks.whole import is_integer

MOST_LETTERS = 4


def failing(s, left, right):
    """Return the least triple of elements for x, y and z for which two words have unlike values, or None."""
    if not is_word(left) or not is_word(right):
        raise Malformed("these are no two words")
    for place, (one, other) in enumerate(list(zip(all_values(s, left), all_values(s, right)))):
        if one != other:
            # The triples stand in ascending order, so their places are numbers with three digits.
            x, rest = divmod(place, s.n * s.n)
            y, z = divmod(rest, s.n)
            return x, y, z
    return None


def holds(s, left, right):
    """Tell whether two words have one value for all elements."""
    return failing(s, left, right) is None


def is_commutative(s):
    """Tell whether x y = y x for all elements."""
    return holds(s, "xy", "yx")


def is_band(s):
    """Tell whether all elements are idempotents."""
    return holds(s, "xx", "x")


def is_semilattice(s):
    """Tell whether the semigroup is a commutative band."""
    return is_commutative(s) and is_band(s)


def is_rectangular(s):
    """Tell whether the semigroup is a rectangular band."""
    return holds(s, "xyx", "x")


def is_completely_regular(s):
    """Tell whether each element is in a group in the semigroup."""
    return all([index_and_period(s, x)[0] == 1 for x in range(s.n)])


def is_group(s):
    """Tell whether the semigroup is a group."""
    return is_completely_regular(s) and len(s.idempotents()) == 1


def is_aperiodic(s):
    """Tell whether all groups in the semigroup have one element."""
    return all([index_and_period(s, x)[1] == 1 for x in range(s.n)])


def word_classes(s, letters, most):
    """Return the classes of equal words of 1 to `most` of the first letters, each with its words in order."""
    _need_number(letters, len(LETTERS))
    _need_number(most, MOST_LETTERS)
    classes = {}
    for word in _words(LETTERS[:letters], most):
        classes.setdefault(tuple(all_values(s, word)), []).append(word)
    return tuple([tuple(words) for words in classes.values()])


def _words(letters, most):
    """Return the list of all words of 1 to `most` of the letters, shorter ones first."""
    found = []
    level = [""]
    for _ in range(most):
        level = [word + letter for word in level for letter in letters]
        found.extend(level)
    return found


def _need_number(value, most):
    if not is_integer(value) or not 1 <= value <= most:
        raise Malformed("this is no number from 1 to the greatest one")
