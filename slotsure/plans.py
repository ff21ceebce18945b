"""PLANS: in which order the FACTORS of a TERM are joined, two by two."""

from slotsure.arrays import need_arrays, need_narrow, need_sizes, rows_by_box, sizes_by_name
from slotsure.errors import BadPlan
from slotsure.gears import slot_table
from slotsure.tables import bare_table, factor_table, joined_table, turned_rows
from slotsure.terms import free_in, need_term, seats
from slotsure.words import is_row, is_whole


def cost(gear, sizes, term, plan):
    """The COST of the PLAN by these SIZES."""
    need_sizes(gear, sizes)
    need_term(gear, term)
    need_plan(term, plan)
    if plan is None:
        return 0
    return _joint(sizes_by_name(gear, sizes, term), term, plan)[0]


def least_plan(gear, sizes, term):
    """(COST, PLAN), one such of the least COST."""
    need_sizes(gear, sizes)
    need_term(gear, term)
    if not term:
        return 0, None
    measure = sizes_by_name(gear, sizes, term)
    # Sets of FACTORS are numbers: FACTOR K stands in one if its bit K is 1. Each set
    # has a greater number than any of its own parts, so these are known ahead of it.
    whole = (1 << len(term)) - 1
    best = {}
    for few in range(1, whole + 1):
        best[few] = _best(measure, term, best, few)
    total, plan, _ = best[whole]
    return total, plan


def worth_by(gear, sizes, arrays, term, plan):
    """The WORTH of the SUM of that TERM alone, with 1, joined by the PLAN; TooGreat(WIDE)."""
    need_arrays(gear, sizes, arrays)
    found = seats(slot_table(gear), term)
    need_plan(term, plan)
    rows = rows_by_box(gear, arrays)
    need_narrow(rows, (((1, 1), term),))
    # Where a BOX has no ROWS, the TABLES of the others may be wider than WIDE.
    if not all([rows[box] for box, _ in term]):
        return []
    table = bare_table() if plan is None else _plan_table(rows, term, plan)
    return sorted(turned_rows(table, [name for name, _, _ in free_in(found)]))


def need_plan(term, plan):
    """None of a PLAN of the TERM, BadPlan of any other thing."""
    if not term and plan is None:
        return
    met = []
    # What is handed in may be nested in many ways: the first wrong thing in it ends this.
    waiting = [plan]
    while waiting:
        thing = waiting.pop()
        if is_row(thing, 2, 2):
            waiting.extend(thing)
        elif is_whole(thing, 0, len(term) - 1) and thing not in met:
            met.append(thing)
        else:
            raise BadPlan("a PLAN is the number of a FACTOR, each once, or a pair of PLANS")
    if len(met) < len(term):
        raise BadPlan("in a PLAN each FACTOR stands")


def _open_in(names):
    return [name for name in names if names.count(name) == 1]


def _joint(measure, term, plan):
    """(COST, OPEN names) of what is known to be a PLAN of some of the FACTORS."""
    if not is_row(plan, 2, 2):
        return 0, _open_in(term[plan][1])
    one, names = _joint(measure, term, plan[0])
    other, behind = _joint(measure, term, plan[1])
    return one + other + _breadth(measure, names, behind), _open_in(names + behind)


def _breadth(measure, names, behind):
    """The SIZES of all names that are OPEN in either, each once, multiplied."""
    many = 1
    for name in sorted(set(names + behind)):
        many = many * measure[name]
    return many


def _best(measure, term, best, few):
    """(COST, PLAN, OPEN names) of these FACTORS, of the least COST."""
    if few & (few - 1) == 0:
        at = few.bit_length() - 1
        return 0, at, _open_in(term[at][1])
    found = None
    # This goes down through all numbers whose bits are some of those of few.
    part = (few - 1) & few
    while part:
        one, plan, names = best[part]
        other, rest, behind = best[few ^ part]
        total = one + other + _breadth(measure, names, behind)
        if found is None or total < found[0]:
            found = (total, (plan, rest), _open_in(names + behind))
        part = (part - 1) & few
    return found


def _plan_table(rows, term, plan):
    if not is_row(plan, 2, 2):
        box, names = term[plan]
        return factor_table(rows[box], names)
    return joined_table(_plan_table(rows, term, plan[0]), _plan_table(rows, term, plan[1]))
