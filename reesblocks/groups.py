"""Groups told by their tables, their normal form and their isomorphisms (point 4.1)."""

from reesblocks.semigroup import is_associative, is_table


def is_group_table(value):
    """Tell whether the value is the table of a group whose unit is 0."""
    if not is_table(value):
        return False
    places = list(range(len(value)))
    if list(value[0]) != places or [row[0] for row in value] != places:
        return False
    # With a unit and a right inverse of each element an associative product is that of a group.
    return all([0 in row for row in value]) and is_associative([tuple(row) for row in value])


def group_form(table):
    """Return the normal form of a group."""
    return form_and_orders(table)[0]


def form_maps(table):
    """Return the ascending tuple of all isomorphisms of a group onto its normal form."""
    return tuple(sorted([places_in(order) for order in form_and_orders(table)[1]]))


def group_isomorphisms(one, two):
    """Return the ascending tuple of all isomorphisms from one group onto another one."""
    if len(one) != len(two):
        return ()
    form, orders = form_and_orders(one)
    other_form, other_orders = form_and_orders(two)
    if form != other_form:
        return ()
    # All isomorphisms come from those onto the normal form by one way back from it.
    back = other_orders[0]
    return tuple(sorted([tuple([back[place] for place in places_in(order)]) for order in orders]))


def form_and_orders(table):
    """Return the normal form of a group, and the list of the enumerations that have it as their table."""
    alike = {}
    for generators, order in _enumerations(table):
        places = places_in(order)
        # Where the generators lead in one enumeration determines its table: so few tables need to be made.
        steps = tuple([places[table[x][g]] for x in order for g in generators])
        alike.setdefault(steps, []).append(order)
    choices = [(_table_of(table, orders[0]), orders) for orders in alike.values()]
    form = min([some for some, _ in choices])
    return form, [order for some, orders in choices if some == form for order in orders]


def places_in(order):
    """Return the tuple of the places at which the numbers 0, 1, .. stand in an order of them."""
    places = [0] * len(order)
    for place, x in enumerate(order):
        places[x] = place
    return tuple(places)


def _enumerations(table):
    """Return the pairs of as few generators as can be and the enumeration of the group by them."""
    level = [((), _generated(table, ()))]
    while True:
        whole = [pair for pair in level if len(pair[1]) == len(table)]
        if whole:
            return whole
        # One that the others generate could be left out, so it is never among the fewest.
        longer = [(*some, g) for some, order in level for g in range(len(table)) if g not in order]
        level = [(generators, _generated(table, generators)) for generators in longer]


def _generated(table, generators):
    """Return the list of what some elements of a group generate, in the order of the least words, the unit first."""
    order = [0]
    known = {0: True}
    at = 0
    while at < len(order):
        row = table[order[at]]
        for g in generators:
            if row[g] not in known:
                known[row[g]] = True
                order.append(row[g])
        at += 1
    return order


def _table_of(table, order):
    """Return the table of an enumeration."""
    places = places_in(order)
    return tuple([tuple([places[table[x][y]] for y in order]) for x in order])
