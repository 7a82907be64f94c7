"""Whole numbers within limits, for the checks of counts and of webs."""

MOST_POINTS = 10


def is_whole(thing, least, most):
    """Whether a thing, of any kind, is a whole number from least to most."""
    # isinstance would take True and False, and objects that only claim to be numbers.
    return type(thing) == int and least <= thing <= most
