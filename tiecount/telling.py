"""Telling a web that has just the counts, or why there is none."""

from tiecount.counts import need_counts, wanted


def told(counts):
    """A web that has just these counts, or why there is none."""
    need_counts(counts)
    if sum(counts) % 2 == 1:
        return ("odd",)
    for many in range(1, len(counts) + 1):
        want, there = wanted(counts, many)
        if want > there:
            return ("many", many)
    return ("web", _ties_of(counts))


def _ties_of(counts):
    """The ties, rising, of a web with these counts, where there is one."""
    left = list(counts)
    ties = []
    for point in range(len(counts)):
        # Where some web has what is left, one ties this point to those that still want most.
        others = _most_wanting(left, point)[:left[point]]
        for other in others:
            ties.append((point, other))
            left[other] -= 1
    return sorted(ties)


def _most_wanting(left, point):
    """The points behind a point, those first of which the most is left."""
    ranked = sorted([(-left[other], other) for other in range(point + 1, len(left))])
    return [pair[1] for pair in ranked]
