"""Whether two SUMS are ALIKE, with a PAPER or a WITNESS, and the looking through of these."""

from slotsure.arrays import is_place, limits_of, need_arrays, need_narrow, rows_by_box, worth_by_rows
from slotsure.errors import BadArrays, BadSizes, BadTerm, TooGreat
from slotsure.forms import form_by, form_steps_by
from slotsure.gears import group_table, slot_table
from slotsure.limits import WIDE
from slotsure.shares import ZERO, quick_plus, quick_times
from slotsure.steps import led
from slotsure.sums import need_light_parts, need_same_free, need_sum, plain_parts, scaled_parts
from slotsure.terms import seats
from slotsure.unknowns import add_counts, arrays_by, numbers_for, orbit, without_noughts
from slotsure.words import is_row, is_whole


def alike(gear, one, other):
    """("alike", PAPER) or ("unlike", WITNESS), one such; Unfit, TooGreat(HEAVY), TooGreat(WIDE)."""
    need_sum(gear, one)
    need_sum(gear, other)
    left = difference(gear, one, other)
    if left:
        return "unlike", _witness(gear, one[0], left)
    return "alike", _paper(gear, one[1] + other[1])


def check_alike(gear, one, other, paper):
    """True if it is a PAPER that the two SUMS are ALIKE, False of anything else."""
    need_sum(gear, one)
    need_sum(gear, other)
    if one[0] != other[0] or not is_row(paper, 2, 2):
        return False
    heads, rows = paper
    parts = less(one, other)
    if not _are_terms(gear, heads) or not is_row(rows, len(parts), len(parts)):
        return False
    groups = group_table(gear, [term for _, term in parts])
    totals = [ZERO for _ in heads]
    for (fraction, term), row in zip(parts, rows):
        if _is_nought_row(groups, term, row):
            continue
        sign = _head_sign(groups, heads, term, row)
        if sign == 0:
            return False
        totals[row[1]] = quick_plus(totals[row[1]], quick_times(fraction, (sign, 1)))
    return all([total == ZERO for total in totals])


def check_unlike(gear, one, other, witness):
    """True if it is a WITNESS that the two SUMS aren't ALIKE, False of anything else; TooGreat(WIDE)."""
    need_sum(gear, one)
    need_sum(gear, other)
    if one[0] != other[0] or not _is_witness_like(gear, one[0], witness):
        return False
    _, arrays, place = witness
    rows = rows_by_box(gear, arrays)
    need_narrow(rows, one[1])
    need_narrow(rows, other[1])
    told = [dict(worth_by_rows(rows, given)).get(place, ZERO) for given in (one, other)]
    return told[0] != told[1]


def difference(gear, one, other):
    """The PARTS of the PLAIN form of ONE less OTHER, none where they are ALIKE; Unfit, TooGreat as alike."""
    need_same_free(one, other)
    groups = group_table(gear, [term for _, term in one[1] + other[1]])
    need_light_parts(groups, one[1])
    need_light_parts(groups, other[1])
    need_witness_width(groups, one[1] + other[1])
    return plain_parts(groups, less(one, other))


def less(one, other):
    """The PARTS of ONE, then those of OTHER times -1."""
    return one[1] + scaled_parts(other[1], (-1, 1))


def need_witness_width(groups, parts):
    """None where a WITNESS about these PARTS has a WORTH by WIDE, TooGreat otherwise."""
    most = max([len(term) for _, term in parts], default=0)
    total = 0
    for _, term in parts:
        many = 1
        for box, _ in term:
            many = many * most * len(groups[box])
        total += many
    if total > WIDE:
        raise TooGreat(WIDE)


def _paper(gear, parts):
    """A PAPER of all these PARTS, of two SUMS that are ALIKE."""
    groups = group_table(gear, [term for _, term in parts])
    forms = {}
    for _, term in parts:
        if term not in forms:
            forms[term] = (form_by(groups, term)[1], form_steps_by(groups, term))
    heads = sorted(set([told for told, _ in forms.values() if told is not None]))
    numbers = {head: at for at, head in enumerate(heads)}
    rows = []
    for _, term in parts:
        told, steps = forms[term]
        rows.append(("nought", steps) if told is None else ("head", numbers[told], steps))
    return tuple(heads), tuple(rows)


def _witness(gear, free, parts):
    """A WITNESS that the SUM of these PARTS, a PLAIN form, isn't ALIKE to the one without PARTS.

    Each name of one of the TERMS gets a number of its own. The numbers then show
    which names were alike: so the product of what stands at the ROWS of all FACTORS
    of this TERM comes of no other TERM.
    """
    groups = group_table(gear, [term for _, term in parts])
    _, term = sorted([(len(term), term) for _, term in parts])[0]
    sizes, number_of = _numbered(gear, term)
    entries = {}
    for box, names in term:
        least, signs = orbit(groups[box], tuple([number_of[name] for name in names]))
        entries.setdefault(box, []).extend([(row, (box, least), sign) for row, sign in signs.items()])
    # BOXES without SLOTS have one ROW, however many FACTORS they have.
    entries = {box: sorted(set(told)) for box, told in entries.items()}
    start = {name: number_of[name] for name, _, _ in free}
    polynomial = {}
    for fraction, own in parts:
        add_counts(polynomial, _counts(entries, own, start), fraction)
    numbers = numbers_for(without_noughts(polynomial))
    return sizes, arrays_by(gear, groups, numbers), tuple(start.values())


def _numbered(gear, term):
    """SIZES, as small as can be, and for each name of the TERM a number of its own in its SPACE."""
    many = {space: 0 for space in gear[0]}
    number_of = {}
    for name, kinds in seats(slot_table(gear), term).items():
        space = kinds[0][0]
        number_of[name] = many[space]
        many[space] += 1
    return tuple([max(1, many[space]) for space in gear[0]]), number_of


def _counts(entries, term, start):
    """The products of entries that come in the sum over the TERM's JOINED names, and how often, with SIGNS."""
    ways = [(start, (), 1)]
    for box, names in term:
        grown = []
        for known, product, sign in ways:
            for row, unknown, factor in entries.get(box, ()):
                told = _met(known, names, row)
                if told is not None:
                    grown.append((told, product + (unknown,), sign * factor))
        ways = grown
    counts = {}
    for _, product, sign in ways:
        key = tuple(sorted(product))
        counts[key] = counts.get(key, 0) + sign
    return counts


def _met(known, names, row):
    """The numbers that are known for names, with those of this ROW; None where they don't go together."""
    told = {}
    for name, number in zip(names, row):
        if known.get(name, number) != number or told.setdefault(name, number) != number:
            return None
    return {**known, **told}


def _are_terms(gear, thing):
    if type(thing) != tuple:
        return False
    table = slot_table(gear)
    try:
        for term in thing:
            seats(table, term)
    except BadTerm:
        return False
    return True


def _is_nought_row(groups, term, row):
    """Whether it is ("nought", STEPS) that lead the TERM to itself with -1."""
    if not is_row(row, 2, 2) or type(row[0]) != str or row[0] != "nought":
        return False
    return _led_by(groups, term, row[1]) == (-1, term)


def _head_sign(groups, heads, term, row):
    """The SIGN with which ("head", K, STEPS) leads the TERM to its head, 0 where it doesn't."""
    if not is_row(row, 3, 3) or type(row[0]) != str or row[0] != "head":
        return 0
    _, at, steps = row
    if not is_whole(at, 0, len(heads) - 1):
        return 0
    sign, told = _led_by(groups, term, steps)
    return sign if told == heads[at] else 0


def _led_by(groups, term, steps):
    """(SIGN, TERM) to which the STEPS of a PAPER lead, (0, None) where they can't."""
    if type(steps) != tuple:
        return 0, None
    sign = 1
    for step in steps:
        made = led(groups, term, step)
        if made is None:
            return 0, None
        factor, term = made
        sign = sign * factor
    return sign, term


def _is_witness_like(gear, free, thing):
    """Whether it is a WITNESS in all but that the WORTHS differ."""
    if not is_row(thing, 3, 3):
        return False
    sizes, arrays, place = thing
    try:
        need_arrays(gear, sizes, arrays)
    except (BadSizes, BadArrays):
        return False
    beneath = [fraction[1] for rows in arrays for _, fraction in rows]
    limits = limits_of(gear, sizes, [row[1:] for row in free])
    return all([number == 1 for number in beneath]) and is_place(limits, place)
