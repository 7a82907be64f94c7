"""Webs to try things on, and what the document says of webs, worked out in other ways."""

from itertools import combinations


def all_ties(size):
    """All the ties that there can be, rising."""
    return list(combinations(range(size), 2))


def all_webs(size):
    """The ties of every web of a size, rising."""
    room = all_ties(size)
    for picked in range(2 ** len(room)):
        yield [tie for at, tie in enumerate(room) if picked >> at & 1]


def counts_by_looking(size, ties):
    return [len([tie for tie in ties if point in tie]) for point in range(size)]


def pieces_by_walking(size, ties):
    """Walks along the ties from each point that was not yet met."""
    told, met = [], set()
    for start in range(size):
        if start in met:
            continue
        piece, ahead = {start}, [start]
        while ahead:
            here = ahead.pop()
            for tie in ties:
                if here in tie:
                    there = tie[0] + tie[1] - here
                    if there not in piece:
                        piece.add(there)
                        ahead.append(there)
        met |= piece
        told.append(sorted(piece))
    return told


def webs_by_counts(size):
    """All webs of a size, in a list for each list of counts, under a tuple of these."""
    found = {}
    for ties in all_webs(size):
        found.setdefault(tuple(counts_by_looking(size, ties)), []).append(ties)
    return found


def tie_of(one, other):
    return (one, other) if one < other else (other, one)


def is_exchange(ties, row):
    """What point 6 says of a tuple of points that there are."""
    a, b, c, d = row
    if len({a, b, c, d}) < 4:
        return False
    return (tie_of(a, b) in ties and tie_of(c, d) in ties
            and tie_of(a, c) not in ties and tie_of(b, d) not in ties)


def left_by(ties, row):
    """The ties that an exchange leaves, rising."""
    a, b, c, d = row
    left = set(ties) - {tie_of(a, b), tie_of(c, d)}
    return sorted(left | {tie_of(a, c), tie_of(b, d)})


def four_forms(row):
    """The rows of the same four points that do the same."""
    a, b, c, d = row
    return [(a, b, c, d), (b, a, d, c), (c, d, a, b), (d, c, b, a)]


def ring(points):
    """The ties of some points in a ring, rising."""
    return sorted(tie_of(points[at - 1], point) for at, point in enumerate(points))
