"""Whole numbers within limits, for the checks of counts and of webs."""

MOST_POINTS = 10


def is_whole(thing, least, most):
    """Whether a thing, of any kind, is a whole number from least to most."""
    # isinstance would take True and False, and objects that only claim to be numbers; and == would
    # let the thing's class answer for itself, so lists and tuples are told by `is`, too (rule L8).
    return type(thing) is int and least <= thing <= most
