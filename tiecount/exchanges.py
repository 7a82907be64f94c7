"""Exchanges: two ties of a web for two others, which keep all counts."""

from tiecount.errors import BadExchange
from tiecount.webs import need_web, tied_rows
from tiecount.whole import is_whole


def may(size, ties, thing):
    """Whether a thing, of any kind, is an exchange of the web."""
    need_web(size, ties)
    if not _are_four_points(size, thing):
        return False
    a, b, c, d = thing
    tied = tied_rows(size, ties)
    return tied[a][b] == tied[c][d] == 1 and tied[a][c] == tied[b][d] == 0


def done(size, ties, exchange):
    """The ties that an exchange leaves, rising."""
    if not may(size, ties, exchange):
        raise BadExchange("an exchange is of a and b, c and d that are tied, a and c, b and d that are not")
    a, b, c, d = exchange
    gone = [_tie(a, b), _tie(c, d)]
    kept = [tie for tie in ties if tie not in gone]
    return sorted(kept + [_tie(a, c), _tie(b, d)])


def exchanges(size, ties):
    """All exchanges of the web in which the first point is the least, rising."""
    need_web(size, ties)
    tied = tied_rows(size, ties)
    # No point is tied to itself, so that of the four only b and d have to be held unlike.
    return [
        (a, b, c, d)
        for a, b in sorted(ties)
        for c in range(a + 1, size) if not tied[a][c]
        for d in range(a + 1, size) if tied[c][d] and d != b and not tied[b][d]
    ]


def _are_four_points(size, thing):
    """Whether a thing, of any kind, is a tuple of four unlike points."""
    # An exact tuple: a claimed or derived one may answer len and iteration at will.
    if type(thing) is not tuple or len(thing) != 4:
        return False
    for point in thing:
        if not is_whole(point, 0, size - 1):
            return False
    return len(set(thing)) == 4


def _tie(one, other):
    """The tie of two points."""
    return (min(one, other), max(one, other))
