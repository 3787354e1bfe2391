"""Generators of a semigroup, and the equal words in them from which all equal words follow (for point 8.2)."""

from reesblocks.parts import generated, least_words


def generators_and_rules(s):
    """Return a list of generators, and a list of pairs of words, tuples of their indexes, from which all follow.

    A map of the generators comes from a homomorphism exactly if it makes both words of each pair equal.
    """
    generators = few_generators(s)
    words, rules = _words_and_rules(s, generators)
    # A product that binds the letters of another word to more than one letter becomes a letter of its own.
    products = {}
    for longer, least in rules:
        if len(set(longer + least)) > len(set(longer)) + 1:
            products[least] = True
    more = [x for x in range(s.n) if words[x] in products]
    if more:
        generators = generators + more
        rules = _words_and_rules(s, generators)[1]
    return generators, rules


def few_generators(s):
    """Return a list of elements that generate the semigroup, none of which can be left out."""
    chosen = [x for x in range(s.n) if _is_needed(s, x)]
    known = generated(s, chosen) if chosen else ()
    while len(known) < s.n:
        parts = [(x, generated(s, [*chosen, x])) for x in range(s.n) if x not in known]
        most = max([len(part) for _, part in parts])
        best, known = [pair for pair in parts if len(pair[1]) == most][0]
        chosen.append(best)
    for x in list(chosen):
        others = [y for y in chosen if y != x]
        if others and len(generated(s, others)) == s.n:
            chosen = others
    return chosen


def _words_and_rules(s, generators):
    """Return the dict of the least words of all elements, and the pairs of a longer word and the least one."""
    words = {}
    for x, word in least_words(s, generators):
        words[x] = word
    rules = []
    for x, word in words.items():
        for index, g in enumerate(generators):
            longer, least = (*word, index), words[s.table[x][g]]
            behind = s.product([generators[k] for k in longer[1:]])
            # A word that is not a least one has a shortest part of this kind, which is a least word without its
            # first letter and without its last one: so these pairs are enough.
            if longer != least and longer[1:] == words[behind]:
                rules.append((longer, least))
    return words, rules


def _is_needed(s, x):
    """Tell whether x is no product of two other elements."""
    others = [y for y in range(s.n) if y != x]
    return all([s.table[y][z] != x for y in others for z in others])
