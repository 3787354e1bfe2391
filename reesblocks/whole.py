"""Integers, equivalences of the numbers 0, .., n - 1 (points 1.1 and 1.4), and sets of numbers told by bits."""


def is_integer(value):
    """Tell whether the value is an integer, and not True or False."""
    return isinstance(value, int) and not isinstance(value, bool)


def is_below(value, n):
    """Tell whether the value is one of the numbers 0, .., n - 1."""
    return is_integer(value) and 0 <= value < n


def is_pair_list(value, n):
    """Tell whether the value is a list or tuple of pairs (tuples) of numbers below n."""
    if not isinstance(value, (list, tuple)):
        return False
    for pair in value:
        if not isinstance(pair, tuple) or len(pair) != 2:
            return False
        if not is_below(pair[0], n) or not is_below(pair[1], n):
            return False
    return True


def is_equivalence(value, n):
    """Tell whether the value is the tuple of an equivalence of n numbers."""
    if not isinstance(value, tuple) or not is_integer(n) or len(value) != n:
        return False
    for x, least in enumerate(value):
        # No item is looked up before it is known to be a place at most x, which was looked at before.
        if not is_below(least, x + 1) or value[least] != least:
            return False
    return True


def classes_of(pairs, n):
    """Return the least equivalence of n numbers in which the two numbers of each pair are equivalent."""
    lesser = list(range(n))
    for x, y in pairs:
        one, other = _end_of(lesser, x), _end_of(lesser, y)
        least = min(one, other)
        lesser[max(one, other)] = least
        # This is not needed for the classes, but it keeps the later ways to the ends short.
        lesser[x] = lesser[y] = least
    for x in range(n):
        # Each number leads to a lesser one, which leads straight to its end by now.
        lesser[x] = lesser[lesser[x]]
    return tuple(lesser)


def _end_of(lesser, x):
    """Return the number to which x leads at last, going from each one to that in its place."""
    while lesser[x] != x:
        x = lesser[x]
    return x


def by_keys(keys):
    """Return the equivalence of the places of a list or tuple in which those with equal items are equivalent."""
    # Keys need not be usable as keys of a dict, so the first equal one is searched for.
    return tuple([keys.index(key) for key in keys])


def joined(a, b):
    """Return the join of two equivalences of one length."""
    return classes_of(list(enumerate(a)) + list(enumerate(b)), len(a))


def meet(a, b):
    """Return the meet of two equivalences of one length."""
    return by_keys(list(zip(a, b)))


def refines(a, b):
    """Tell whether what is equivalent in a is so in b, for two equivalences of one length."""
    return all([b[x] == b[least] for x, least in enumerate(a)])


def class_sets(classes):
    """Return the tuple of the classes of an equivalence, each an ascending tuple, in ascending order."""
    members = {}
    for x, least in enumerate(classes):
        members.setdefault(least, []).append(x)
    # Each class is met first at its least number, so they stand in ascending order.
    return tuple([tuple(numbers) for numbers in members.values()])


def bits_of(truths):
    """Return the integer whose bits tell at which places there is a truth."""
    bits = 0
    for place, truth in enumerate(truths):
        if truth:
            bits |= 1 << place
    return bits
