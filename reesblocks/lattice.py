"""The lattice of the congruences: covers, atoms, the monolith, the Moebius numbers (points 5.3 and 5.4)."""

from reesblocks.congruence import congruences


def covers(s):
    """Return the ascending tuple of the pairs (i, k) for which the congruence k covers the congruence i."""
    above = all_above(congruences(s))
    return tuple([(i, k) for i in range(len(above)) for k in _covering(above, i)])


def atoms(s):
    """Return the ascending tuple of the congruences that cover the least one."""
    found = congruences(s)
    # What is below another one is greater as a tuple, so the least congruence is the last one.
    return tuple([found[k] for k in _covering(all_above(found), len(found) - 1)])


def monolith(s):
    """Return the only atom, or None if there are more or none."""
    found = atoms(s)
    return found[0] if len(found) == 1 else None


def moebius_numbers(s):
    """Return the tuple of the Moebius numbers of the congruences."""
    return moebius_of(all_above(congruences(s)))


def moebius_of(above):
    """Return the tuple of the Moebius numbers, from the places of all that are above the one at each place."""
    numbers = [0] * len(above)
    numbers[-1] = 1
    # Whatever is below the one at a place stands behind it, so its number is complete when its turn comes.
    for i in reversed(range(len(above))):
        for k in above[i]:
            numbers[k] -= numbers[i]
    return tuple(numbers)


def all_above(found):
    """Return for each of the ascending equivalences the ascending list of the places of those above it."""
    masks = [_mask(classes) for classes in found]
    return [[k for k in range(i) if mask & masks[k] == mask] for i, mask in enumerate(masks)]


def _mask(classes):
    """Return the integer whose bits tell which pairs of numbers are equivalent."""
    mask = 0
    n = len(classes)
    for x in range(n):
        for y in range(x):
            if classes[x] == classes[y]:
                mask |= 1 << (x * n + y)
    return mask


def _covering(above, i):
    """Return the ascending list of the places above i that are above no other place above i."""
    between = 0
    for k in above[i]:
        for further in above[k]:
            between |= 1 << further
    return [k for k in above[i] if not between >> k & 1]
