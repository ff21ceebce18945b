"""What a whole number, a NAME and a row of things are, asked of any thing."""

_LONGEST = 8
_LETTERS = "abcdefghijklmnopqrstuvwxyz"


def is_whole(thing, least, most):
    """True of an int from least to most, both included, False of any other thing."""
    # Asked of the very class, since True and False are instances of int, too,
    # and what only looks like an int might not bear being compared.
    return type(thing) == int and least <= thing <= most


def is_name(thing):
    """True of a text of 1 to 8 small letters, False of any other thing."""
    if type(thing) != str or not 1 <= len(thing) <= _LONGEST:
        return False
    # Not islower or isalpha: these take letters beyond a to z as well.
    return all([sign in _LETTERS for sign in thing])


def is_row(thing, least, most):
    """True of a tuple of least to most things, both included, False of any other thing."""
    return type(thing) == tuple and least <= len(thing) <= most


def rises(row):
    """Whether each of these texts, numbers or tuples stands below the one behind it."""
    return all([one < other for one, other in zip(row, row[1:])])
