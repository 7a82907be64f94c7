"""Things of many kinds that are neither a whole number, nor a list, nor a tuple."""

from unittest.mock import Mock


class Unruly:
    """Fails at whatever is asked of it."""

    def _fail(self, *rest):
        raise RuntimeError("this thing was asked")

    __eq__ = __ne__ = __lt__ = __le__ = __gt__ = __ge__ = __hash__ = _fail
    __len__ = __iter__ = __getitem__ = __contains__ = __bool__ = _fail
    __int__ = __index__ = __str__ = __repr__ = _fail
    __class__ = property(_fail)


def odd_things():
    """A new list of them."""
    return [
        None, True, False, "", "3", "ab", b"", b"\x01", {}, {0: 1}, set(), {1}, frozenset([1]),
        range(3), iter([1]), (n for n in [1]), len, int, list, object(), NotImplemented, ...,
        Mock(spec=list), Mock(spec=int), Mock(spec=tuple), Unruly(),
    ]
