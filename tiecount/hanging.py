"""Webs that hang together, and the exchanges that lead to them."""

from tiecount.errors import NoWeb
from tiecount.exchanges import done
from tiecount.telling import told
from tiecount.webs import counts_of, pieces


def hung(counts):
    """A web that has just these counts and hangs together, or why there is none."""
    found = told(counts)
    if found[0] != "web":
        return found
    hindrance = _hindrance(counts)
    if hindrance is not None:
        return hindrance
    size = len(counts)
    ties = found[1]
    steps = joining(size, ties)
    for step in steps:
        ties = done(size, ties, step)
    return ("web", ties)


def joining(size, ties):
    """Exchanges that lead to a web that hangs together, each of which leaves one piece fewer."""
    if _hindrance(counts_of(size, ties)) is not None:
        raise NoWeb("no web with these counts hangs together")
    steps = []
    left = ties
    while len(pieces(size, left)) > 1:
        step = _join(size, left)
        steps.append(step)
        left = done(size, left, step)
    return steps


def _hindrance(counts):
    """Why of these counts, of which there is a web, none hangs together, or None."""
    if len(counts) > 1 and 0 in counts:
        return ("alone", counts.index(0))
    if sum(counts) < 2 * (len(counts) - 1):
        return ("few",)
    return None


def _join(size, ties):
    """An exchange that makes one piece of two."""
    # Without the spare tie its piece still holds, and all that the other piece falls into is tied to it.
    a, b = _spare_tie(size, ties)
    c, d = _tie_elsewhere(size, ties, a)
    return (a, b, c, d)


def _spare_tie(size, ties):
    """A tie without which there are no more pieces."""
    # There is one: a web of several pieces and without such ties has fewer ties than the points less 1.
    many = len(pieces(size, ties))
    return [tie for tie in ties if len(pieces(size, _without(ties, tie))) == many][0]


def _without(ties, tie):
    """The other ties."""
    return [other for other in ties if other != tie]


def _tie_elsewhere(size, ties, point):
    """A tie of another piece than the one of the point."""
    # There is one: each point has a tie.
    own = [piece for piece in pieces(size, ties) if point in piece][0]
    return [tie for tie in ties if tie[0] not in own][0]
