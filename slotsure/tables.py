"""TABLES: what stands at the ROWS of FACTORS, told by their names and joined two by two.

A TABLE is a pair of a tuple of unlike names and a dict: at a row of numbers, one
for each name, stands a FRACTION; at every other row stands 0. A name that stands
in no other FACTOR of the TERM and isn't FREE is summed over already.
"""

from slotsure.shares import quick_plus, quick_times


def bare_table():
    """The TABLE of no FACTORS."""
    return (), {(): (1, 1)}


def factor_table(rows, names):
    """The TABLE of a FACTOR with these names, of whose BOX these pairs (ROW, FRACTION) are told."""
    own = tuple([name for name in names if names.count(name) == 1])
    places = [names.index(name) for name in own]
    # A name in two SLOTS of one FACTOR takes the ROWS with one number in both.
    twins = [(names.index(name), at) for at, name in enumerate(names) if names.index(name) < at]
    told = {}
    for row, fraction in rows:
        if all([row[one] == row[other] for one, other in twins]):
            add_at(told, tuple([row[at] for at in places]), fraction)
    return own, told


def joined_table(one, other):
    """The two TABLES multiplied, and summed over the names that stand in both."""
    names, told = one
    others, behind = other
    shared = [name for name in names if name in others]
    met = [names.index(name) for name in shared]
    kept = [at for at, name in enumerate(names) if name not in shared]
    index = _index(others, behind, shared)
    found = {}
    for row, fraction in told.items():
        ahead = tuple([row[at] for at in kept])
        for rest, by in index.get(tuple([row[at] for at in met]), ()):
            add_at(found, ahead + rest, quick_times(fraction, by))
    return tuple([names[at] for at in kept] + [name for name in others if name not in shared]), found


def turned_rows(table, names):
    """Pairs (ROW, FRACTION) of the TABLE, the numbers in the order of these names, without 0."""
    own, told = table
    places = [own.index(name) for name in names]
    return [(tuple([row[at] for at in places]), fraction) for row, fraction in told.items() if fraction[0] != 0]


def add_at(told, row, fraction):
    """Adds the FRACTION to what stands at the row of the dict."""
    told[row] = quick_plus(told[row], fraction) if row in told else fraction


def _index(names, told, shared):
    """By the numbers for the shared names: the numbers for the others, with the FRACTIONS."""
    met = [names.index(name) for name in shared]
    kept = [at for at, name in enumerate(names) if name not in shared]
    index = {}
    for row, fraction in told.items():
        held = index.setdefault(tuple([row[at] for at in met]), [])
        held.append((tuple([row[at] for at in kept]), fraction))
    return index
