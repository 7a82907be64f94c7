"""Things of many kinds that are no whole number, list or tuple, and what is no counts and no web."""

from unittest.mock import Mock


class Unruly:
    """Fails at whatever is asked of it."""

    def _fail(self, *rest):
        raise RuntimeError("this thing was asked")

    __eq__ = __ne__ = __lt__ = __le__ = __gt__ = __ge__ = __hash__ = _fail
    __len__ = __iter__ = __getitem__ = __contains__ = __bool__ = _fail
    __int__ = __index__ = __str__ = __repr__ = _fail
    __class__ = property(_fail)


class Likes(type):
    """Its classes say that they are each other class, by every means."""

    def __eq__(cls, other):
        return True

    def __ne__(cls, other):
        return False

    def __hash__(cls):
        return hash(int)

    def __instancecheck__(cls, thing):
        return True

    __subclasscheck__ = __instancecheck__


class Stops(type):
    """Its classes fail when they are asked whether they equal another class."""

    def _fail(cls, *rest):
        return 1 // 0

    __eq__ = __ne__ = __hash__ = __instancecheck__ = __subclasscheck__ = _fail


class Plain(metaclass=Likes):
    """No list, no tuple and no whole number, whatever its class says."""


class Shy(metaclass=Stops):
    """Nor is this one, whose class is not to be asked."""


class UnrulyPlain(Unruly, metaclass=Likes):
    """Fails at whatever is asked of it, while its class says yes."""


class Posing(metaclass=Likes):
    """Poses as a value of Python's own, and does what is asked of that one."""

    def __init__(self, value):
        self.value = value

    __class__ = property(lambda self: type(self.value))

    def __len__(self):
        return len(self.value)

    def __iter__(self):
        return iter(self.value)

    def __getitem__(self, at):
        return self.value[at]

    def __index__(self):
        return self.value

    __int__ = __index__

    def __hash__(self):
        return hash(self.value)

    def __eq__(self, other):
        return self.value == other

    def __lt__(self, other):
        return self.value < other

    def __le__(self, other):
        return self.value <= other

    def __gt__(self, other):
        return self.value > other

    def __ge__(self, other):
        return self.value >= other

    def __add__(self, other):
        return self.value + other

    def __sub__(self, other):
        return self.value - other


def posing_things():
    """A new list of things whose classes answer for themselves what they equal."""
    posed = [0, 1, 2, 3, [0], [1, 1], [], [(0, 1)], [(0, 1), (2, 3)], (), (0, 1), (0, 1, 2, 3)]
    return [Plain(), Shy(), UnrulyPlain(), Plain, Shy, Posing] + [Posing(value) for value in posed]


def odd_things():
    """A new list of them."""
    return posing_things() + [
        None, True, False, "", "3", "ab", b"", b"\x01", {}, {0: 1}, set(), {1}, frozenset([1]),
        range(3), iter([1]), (n for n in [1]), len, int, list, object(), NotImplemented, ...,
        Mock(spec=list), Mock(spec=int), Mock(spec=tuple), Unruly(),
    ]


def bad_counts():
    """A new list of things that are no counts."""
    bad = odd_things() + [[], [0] * 11, [20] * 11, [1] * 1000, (), (1,), (1, 2, 3), 0, 1, 10]
    for wrong in odd_things() + [-1, 21, -20, 10 ** 30, -10 ** 30, (1,), [1], []]:
        bad += [[wrong], [wrong, 1, 2], [1, wrong, 2], [1, 2, wrong], [1] * 9 + [wrong]]
    return bad


def bad_sizes():
    return odd_things() + [0, -1, 11, 12, -10, 10 ** 30, [3], (3,), []]


def bad_ties():
    """A new list of things that are no tie in a web of four points."""
    bad = odd_things() + [
        0, 1, (), (0,), (1,), (0, 1, 2), (0, 1, 1), ((0, 1),), [0, 1], [], [0, 1, 2], "01", b"\x00\x01",
        (1, 0), (3, 2), (0, 0), (3, 3), (0, 4), (3, 4), (4, 5), (4, 4), (-1, 0), (-1, 2), (-2, -1), (0, -1),
        (0, 10 ** 30), (-10 ** 30, 0),
    ]
    for wrong in odd_things() + [(0,), [0], []]:
        bad += [(wrong, 2), (0, wrong), (wrong, wrong)]
    return bad


def bad_webs():
    """A new list of sizes and ties that together are no web."""
    bad = [(size, []) for size in bad_sizes()]
    bad += [(4, [(0, 2), tie]) for tie in bad_ties()]
    bad += [(4, ties) for ties in odd_things() + [(), ((0, 1),), 0, 1, (0, 1)]]
    return bad + [(4, [(0, 1), (2, 3), (0, 1)]), (3, [(2, 3)]), (1, [(0, 1)]), (None, None)]
