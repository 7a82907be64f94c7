"""Counts: how many ties each point shall have."""

from tiecount.errors import BadCounts, BadMany
from tiecount.whole import MOST_POINTS, is_whole

MOST_TIES = 20


def need_counts(thing):
    """Refuse what is no list of 1 to 10 whole numbers from 0 to 20."""
    # An exact list: a claimed or derived one may answer len and iteration at will.
    if type(thing) is not list:
        raise BadCounts("counts are a list")
    if not is_whole(len(thing), 1, MOST_POINTS):
        raise BadCounts("there are 1 to 10 counts")
    for count in thing:
        if not is_whole(count, 0, MOST_TIES):
            raise BadCounts("each count is a whole number from 0 to 20")


def wanted(counts, many):
    """What the greatest many counts want together, and what there can be for them."""
    need_counts(counts)
    if not is_whole(many, 0, len(counts)):
        raise BadMany("many is a whole number from 0 to how many counts there are")
    falling = sorted(counts, reverse=True)
    among = many * (many - 1)
    beside = sum([min(count, many) for count in falling[many:]])
    return (sum(falling[:many]), among + beside)
