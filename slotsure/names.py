"""The names in TERMS that are known to be such: counted, exchanged, and new ones found."""

_LETTERS = "abcdefghijklmnopqrstuvwxyz"


def names_in(term):
    """Each NAME as often as it stands in the TERM, in the order of the SLOTS."""
    return [name for _, names in term for name in names]


def joined_in(term):
    """The JOINED names of the TERM, by their first SLOTS."""
    counts = {}
    for name in names_in(term):
        counts[name] = counts.get(name, 0) + 1
    return [name for name, count in counts.items() if count == 2]


def exchanged(term, changes):
    """The TERM with each NAME that stands in changes exchanged, all at once."""
    return tuple([(box, tuple([changes.get(name, name) for name in names])) for box, names in term])


def fresh(taken, many):
    """The first so many NAMES, short ones ahead, that are none of those taken."""
    told = []
    at = 0
    while len(told) < many:
        name = _name_at(at)
        if name not in taken:
            told.append(name)
        at += 1
    return told


def apart(term, taken):
    """The TERM, with those of its JOINED names that stand in the list taken exchanged for new ones."""
    meeting = [name for name in joined_in(term) if name in taken]
    if not meeting:
        return term
    others = fresh(names_in(term) + taken, len(meeting))
    return exchanged(term, dict(zip(meeting, others)))


def _name_at(at):
    # a to z, then aa to zz, and so on.
    name = _LETTERS[at % len(_LETTERS)]
    while at >= len(_LETTERS):
        at = at // len(_LETTERS) - 1
        name = _LETTERS[at % len(_LETTERS)] + name
    return name
