"""Webs: a size, and the ties between points that are numbered from 0 on."""

from tiecount.errors import BadWeb
from tiecount.whole import MOST_POINTS, is_whole


def need_web(size, ties):
    """Refuse what is no web: a size from 1 to 10 and a list of ties, each once."""
    if not is_whole(size, 1, MOST_POINTS):
        raise BadWeb("a size is a whole number from 1 to 10")
    # An exact list: a claimed or derived one may answer iteration at will.
    if type(ties) is not list:
        raise BadWeb("ties are a list")
    seen = set()
    for tie in ties:
        if not _is_tie(size, tie):
            raise BadWeb("each tie is a tuple of two points, the lesser one first")
        if tie in seen:
            raise BadWeb("each tie stands there once")
        seen.add(tie)


def _is_tie(size, thing):
    """Whether a thing, of any kind, can be a tie in a web of a good size."""
    if type(thing) is not tuple or len(thing) != 2:
        return False
    low, high = thing
    return is_whole(high, 1, size - 1) and is_whole(low, 0, high - 1)


def counts_of(size, ties):
    """How many ties each point is in."""
    need_web(size, ties)
    counts = [0] * size
    for low, high in ties:
        counts[low] += 1
        counts[high] += 1
    return counts


def tied_rows(size, ties):
    """For each point of a good web a row with 1 for the points that it is tied to, else 0."""
    rows = [[0] * size for _ in range(size)]
    for low, high in ties:
        rows[low][high] = 1
        rows[high][low] = 1
    return rows


def pieces(size, ties):
    """The points that hang together, piece by piece."""
    need_web(size, ties)
    firsts = _first_points(size, ties)
    found = []
    for first in range(size):
        if firsts[first] == first:
            found.append([point for point in range(size) if firsts[point] == first])
    return found


def _first_points(size, ties):
    """For each point of a good web the least point of its piece."""
    firsts = list(range(size))
    for low, high in ties:
        kept = min(firsts[low], firsts[high])
        lost = max(firsts[low], firsts[high])
        firsts = [kept if first == lost else first for first in firsts]
    return firsts
