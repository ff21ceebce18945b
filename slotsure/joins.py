"""The FREE names of SUMS: joined, exchanged for others, made even or odd."""

from itertools import permutations

from slotsure.errors import BadName, TooGreat, Unfit
from slotsure.gears import moved
from slotsure.limits import LONG
from slotsure.names import apart, exchanged
from slotsure.shares import quick_times, share
from slotsure.sums import kinds_in, need_sum
from slotsure.terms import can_join
from slotsure.words import is_name, is_row

_MOST_NAMES = 4


def closed(gear, given, name, other):
    """The SUM with two FREE names joined, the first in the place of both; BadName, Unfit((name, other))."""
    need_sum(gear, given)
    free, parts = given
    kinds = kinds_in(free)
    if not is_name(name) or name not in kinds:
        raise BadName("the first name isn't FREE")
    if not is_name(other) or other not in kinds or other == name:
        raise BadName("the other name isn't FREE, or is the first one")
    if not can_join(kinds[name], kinds[other]):
        raise Unfit((name, other))
    rest = tuple([row for row in free if row[0] not in (name, other)])
    return rest, tuple([(fraction, exchanged(term, {other: name})) for fraction, term in parts])


def renamed(gear, given, pairs):
    """The SUM with FREE names exchanged, all at once, by pairs (OLD, NEW); BadName."""
    need_sum(gear, given)
    free, parts = given
    changes = _changes(free, pairs)
    after = tuple(sorted([(changes.get(name, name), space, side) for name, space, side in free]))
    names = [row[0] for row in after]
    # What is JOINED makes way ahead: a NEW name could not be told from it afterwards.
    return after, tuple([(fraction, exchanged(apart(term, names), changes)) for fraction, term in parts])


def even(gear, given, names):
    """The SUM made even over these FREE names; BadName, Unfit(names), TooGreat(LONG)."""
    orders = _orders_of(gear, given, names)
    return _mixed(given, names, [(order, 1) for order, _ in orders])


def odd(gear, given, names):
    """The SUM made odd over these FREE names; BadName, Unfit(names), TooGreat(LONG)."""
    orders = _orders_of(gear, given, names)
    return _mixed(given, names, orders)


def _changes(free, pairs):
    """NEW by OLD; BadName."""
    if type(pairs) not in (list, tuple):
        raise BadName("the pairs are a list or a tuple")
    kinds = kinds_in(free)
    changes = {}
    for pair in pairs:
        if not is_row(pair, 2, 2) or not is_name(pair[0]) or not is_name(pair[1]):
            raise BadName("each is a tuple (OLD, NEW) of NAMES")
        old, new = pair
        if old not in kinds or old in changes:
            raise BadName("an OLD name isn't FREE, or stands twice")
        changes[old] = new
    if len(set([changes.get(name, name) for name in kinds])) != len(kinds):
        raise BadName("two FREE names would be alike")
    return changes


def _orders_of(gear, given, names):
    """The orders of the names with their SIGNS; refuses as even and odd do."""
    need_sum(gear, given)
    free, parts = given
    kinds = kinds_in(free)
    if not is_row(names, 1, _MOST_NAMES):
        raise BadName("the names are a tuple of 1 to 4")
    if not all([is_name(name) and name in kinds for name in names]) or len(set(names)) != len(names):
        raise BadName("the names are unlike FREE ones")
    if not all([kinds[name] == kinds[names[0]] for name in names]):
        raise Unfit(names)
    orders = [(order, _sign_of(order)) for order in permutations(range(len(names)))]
    if len(parts) * len(orders) > LONG:
        raise TooGreat(LONG)
    return orders


def _sign_of(order):
    crossings = [one for at, one in enumerate(order) for other in order[at:] if other < one]
    return 1 if len(crossings) % 2 == 0 else -1


def _mixed(given, names, orders):
    """Each PART by each of the orders, divided by how many there are, with their SIGNS."""
    free, parts = given
    changes = [(share(sign, len(orders)), dict(zip(names, moved(names, order)))) for order, sign in orders]
    made = [
        (quick_times(fraction, by), exchanged(term, change))
        for fraction, term in parts
        for by, change in changes
    ]
    return free, tuple(made)
