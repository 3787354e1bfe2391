"""Congruences, chains that join two elements, quotients, words and identities (points 5.1, 5.2, 5.3 and 5.5)."""

from reesblocks.errors import Malformed, Refused
from reesblocks.semigroup import Semigroup
from reesblocks.whole import is_equivalence, is_pair_list

MOST_CONGRUENCES = 1000
LETTERS = "xyz"
LONGEST_WORD = 12
NO_FACTOR = -1


def is_congruence(s, value):
    """Tell whether the value is the tuple of a congruence."""
    if not is_equivalence(value, s.n):
        return False
    for x, least in enumerate(value):
        for z in range(s.n):
            if value[s.table[x][z]] != value[s.table[least][z]] or value[s.table[z][x]] != value[s.table[z][least]]:
                return False
    return True


def generated(s, pairs):
    """Return the least congruence that puts together the elements of each pair."""
    _need_pairs(s, pairs)
    classes = list(range(s.n))
    waiting = list(pairs)
    while waiting:
        x, y = waiting.pop()
        if classes[x] != classes[y]:
            classes = _put_together(classes, x, y)
            for z in range(s.n):
                waiting.append((s.table[x][z], s.table[y][z]))
                waiting.append((s.table[z][x], s.table[z][y]))
    return tuple(classes)


def chain(s, pairs, x, y):
    """Return the shortest tuple of steps (left, i, right, turned) that leads from x to y, or None."""
    _need_pairs(s, pairs)
    if not s.is_element(x) or not s.is_element(y):
        raise Malformed("these are no two elements")
    steps = _steps(s, pairs)
    ways = {x: ()}
    level = [x]
    while level and y not in ways:
        further = []
        # The list that is filled here is the next level, so a copy of the level is walked.
        for z in list(level):
            for after, step in steps[z].items():
                if after not in ways:
                    ways[after] = (*ways[z], step)
                    further.append(after)
        level = further
    return ways.get(y)


def class_numbers(classes):
    """Return for each element the number of its class among the classes of an equivalence."""
    numbers = {}
    for least in classes:
        numbers.setdefault(least, len(numbers))
    return tuple([numbers[least] for least in classes])


def quotient(s, classes):
    """Return the semigroup of the classes of a congruence."""
    if not is_congruence(s, classes):
        raise Malformed("the classes are no congruence")
    numbers = class_numbers(classes)
    leaders = [x for x, least in enumerate(classes) if x == least]
    return Semigroup([[numbers[s.table[x][y]] for y in leaders] for x in leaders])


def congruences(s):
    """Return the ascending tuple of all congruences."""
    # Each congruence is a join of some that one pair generates, so they are joined in all ways.
    principal = {}
    for y in range(s.n):
        for x in range(y):
            principal.setdefault(generated(s, ((x, y),)), (x, y))
    least = tuple(range(s.n))
    known = {least: True}
    waiting = [least]
    while waiting:
        classes = waiting.pop()
        for other, (x, y) in principal.items():
            if classes[x] != classes[y]:
                join = _join(classes, other)
                if join not in known:
                    known[join] = True
                    waiting.append(join)
        if len(known) > MOST_CONGRUENCES:
            raise Refused("many")
    return tuple(sorted(list(known)))


def is_word(value):
    """Tell whether the value is a string of 1 to 12 of the letters x, y and z."""
    if not isinstance(value, str) or not 1 <= len(value) <= LONGEST_WORD:
        return False
    return all([letter in LETTERS for letter in value])


def value_of(s, word, values):
    """Return the value of a word for a list or tuple of three elements, in the place of x, y and z."""
    if not is_word(word):
        raise Malformed("this is no word")
    if not isinstance(values, (list, tuple)) or len(values) != len(LETTERS):
        raise Malformed("the values are no list or tuple of three elements")
    if not all([s.is_element(x) for x in values]):
        raise Malformed("a value is no element")
    return s.product([values[LETTERS.index(letter)] for letter in word])


def least_with(s, identities):
    """Return the least congruence whose quotient satisfies the identities."""
    if not isinstance(identities, (list, tuple)) or not all([_is_identity(pair) for pair in identities]):
        raise Malformed("the identities are no list or tuple of pairs of words")
    pairs = {}
    for left, right in identities:
        for pair in zip(all_values(s, left), all_values(s, right)):
            pairs[pair] = True
    return generated(s, list(pairs))


def all_values(s, word):
    """Return the list of the values of a word for all triples of elements, in the order of the triples."""
    every = range(s.n)
    triples = [(x, y, z) for x in every for y in every for z in every]
    rows = [[triple[LETTERS.index(letter)] for triple in triples] for letter in word]
    found = rows[0]
    for row in rows[1:]:
        found = [s.table[x][y] for x, y in zip(found, row)]
    return found


def _is_identity(value):
    return isinstance(value, tuple) and len(value) == 2 and is_word(value[0]) and is_word(value[1])


def _need_pairs(s, pairs):
    if not is_pair_list(pairs, s.n):
        raise Malformed("the pairs are no list or tuple of pairs of elements")


def _put_together(classes, x, y):
    """Return the list of the classes after those of x and y have become one."""
    least, other = min(classes[x], classes[y]), max(classes[x], classes[y])
    return [least if label == other else label for label in classes]


def _join(one, two):
    """Return the join of two equivalences."""
    classes = list(one)
    for x, least in enumerate(two):
        if classes[x] != classes[least]:
            classes = _put_together(classes, x, least)
    return tuple(classes)


def _steps(s, pairs):
    """Return for each element the dict of the elements to which one step leads, each with one such step."""
    steps = [{} for _ in range(s.n)]
    factors = [NO_FACTOR, *range(s.n)]
    known = {}
    for i, pair in enumerate(pairs):
        # The same pair once more leads nowhere else, and there can be many such ones.
        if pair in known:
            continue
        known[pair] = True
        for left in factors:
            for right in factors:
                one, other = [_between(s, left, x, right) for x in pair]
                if one != other:
                    steps[one].setdefault(other, (left, i, right, 0))
                    steps[other].setdefault(one, (left, i, right, 1))
    return steps


def _between(s, left, x, right):
    """Return the product of left, x and right, without a factor where there is none."""
    if left != NO_FACTOR:
        x = s.table[left][x]
    return x if right == NO_FACTOR else s.table[x][right]
