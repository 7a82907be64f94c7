"""Ways: rows of exchanges that lead from a web to another one of the same counts."""

from tiecount.errors import Unlike
from tiecount.exchanges import done, exchanges
from tiecount.webs import counts_of, tied_rows


def way(size, one, other):
    """Exchanges that lead from one web to the other, no more than the ties that the other lacks."""
    if counts_of(size, one) != counts_of(size, other):
        raise Unlike("both webs have the same counts")
    here = sorted(one)
    there = sorted(other)
    ahead = []
    behind = []
    # While the webs are unlike, some exchange of one of them nears it to the other; those of one
    # web do not always. Were there none, take a point that is tied to u only in here and to y only
    # in there. Then u is tied, only in here, to that point and to all (but u) that y is, so to more
    # than y. By the same reason y is tied to more than u only in there. But as their counts are the
    # same, each point is tied to as many only in here as only in there.
    while here != there:
        step = _nearing(size, here, there)
        if step is not None:
            ahead.append(step)
            here = done(size, here, step)
        else:
            step = _nearing(size, there, here)
            behind.append(_undoing(step))
            there = done(size, there, step)
    return ahead + behind[::-1]


def _nearing(size, ties, goal):
    """An exchange that leaves a web more ties of the goal than it had, or None."""
    wished = tied_rows(size, goal)
    for a, b, c, d in exchanges(size, ties):
        if wished[a][c] + wished[b][d] > wished[a][b] + wished[c][d]:
            return (a, b, c, d)
    return None


def _undoing(exchange):
    """The exchange that leads back from what an exchange leaves."""
    a, b, c, d = exchange
    return (a, c, b, d)
