"""Things of many kinds that are no whole number, list or tuple, and what is no counts and no web."""

from unittest.mock import Mock


class Unruly:
    """Fails at whatever is asked of it."""

    def _fail(self, *rest):
        raise RuntimeError("this thing was asked")

    __eq__ = __ne__ = __lt__ = __le__ = __gt__ = __ge__ = __hash__ = _fail
    __len__ = __iter__ = __getitem__ = __contains__ = __bool__ = _fail
    __int__ = __index__ = __str__ = __repr__ = _fail
    __class__ = property(_fail)


def odd_things():
    """A new list of them."""
    return [
        None, True, False, "", "3", "ab", b"", b"\x01", {}, {0: 1}, set(), {1}, frozenset([1]),
        range(3), iter([1]), (n for n in [1]), len, int, list, object(), NotImplemented, ...,
        Mock(spec=list), Mock(spec=int), Mock(spec=tuple), Unruly(),
    ]


def bad_counts():
    """A new list of things that are no counts."""
    bad = odd_things() + [[], [0] * 11, [20] * 11, [1] * 1000, (), (1,), (1, 2, 3), 0, 1, 10]
    for wrong in odd_things() + [-1, 21, -20, 10 ** 30, -10 ** 30, (1,), [1], []]:
        bad += [[wrong], [wrong, 1, 2], [1, wrong, 2], [1, 2, wrong], [1] * 9 + [wrong]]
    return bad


def bad_sizes():
    return odd_things() + [0, -1, 11, 12, -10, 10 ** 30, [3], (3,), []]


def bad_ties():
    """A new list of things that are no tie in a web of four points."""
    bad = odd_things() + [
        0, 1, (), (0,), (1,), (0, 1, 2), (0, 1, 1), ((0, 1),), [0, 1], [], [0, 1, 2], "01", b"\x00\x01",
        (1, 0), (3, 2), (0, 0), (3, 3), (0, 4), (3, 4), (4, 5), (4, 4), (-1, 0), (-1, 2), (-2, -1), (0, -1),
        (0, 10 ** 30), (-10 ** 30, 0),
    ]
    for wrong in odd_things() + [(0,), [0], []]:
        bad += [(wrong, 2), (0, wrong), (wrong, wrong)]
    return bad


def bad_webs():
    """A new list of sizes and ties that together are no web."""
    bad = [(size, []) for size in bad_sizes()]
    bad += [(4, [(0, 2), tie]) for tie in bad_ties()]
    bad += [(4, ties) for ties in odd_things() + [(), ((0, 1),), 0, 1, (0, 1)]]
    return bad + [(4, [(0, 1), (2, 3), (0, 1)]), (3, [(2, 3)]), (1, [(0, 1)]), (None, None)]
