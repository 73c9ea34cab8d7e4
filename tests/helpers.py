"""What the tests share."""

import unittest


class Touchy:
    """An object with which hardly anything can be done."""

    def _refuse(self, *_):
        raise RuntimeError("touched")

    __eq__ = __ne__ = __lt__ = __gt__ = __le__ = __ge__ = _refuse
    __hash__ = __bool__ = __len__ = __iter__ = __getitem__ = __contains__ = _refuse
    __int__ = __index__ = __add__ = __radd__ = __neg__ = _refuse


class Agreeing:
    """An object that says that it is equal to everything."""

    def __eq__(self, other):
        return True

    def __hash__(self):
        return hash("x")


def odd_objects():
    """Objects of many kinds, none of them a name, a number, or a tuple or list or dict with something in it."""
    return [None, True, False, 0.0, 1.5, float("nan"), 1j, "", "X", "x1", "ninechars", "a b", "a\n", b"", b"x",
            [], (), {}, set(), frozenset(), {1}, range(2), object(), object, len, lambda: 0, iter([]),
            Touchy(), Agreeing(), NotImplemented, Ellipsis, ValueError(3)]


def odd_names():
    """Objects that are no names."""
    return odd_objects() + [0, 1, -1, ("x",), ["x"], {"x": 1}, "_", "x ", " x", "x\n", "abcdefghi", "Ab", "a-b", "\xe9"]


def odd_numbers():
    """Objects that are no numbers."""
    return odd_objects() + [10 ** 30 + 1, -10 ** 30 - 1, "x", "0", (0,), [0]]


class Case(unittest.TestCase):
    """A test case that looks at errors and at what they keep."""

    maxDiff = None

    def failing(self, kind, call, *args, **named):
        """The error of this kind that the call raises."""
        with self.assertRaises(kind) as caught:
            call(*args, **named)
        self.assertIs(type(caught.exception), kind)
        return caught.exception

    def fails(self, kind, value, call, *args, **named):
        """Looks whether the call raises an error that keeps this very value."""
        self.assertIs(self.failing(kind, call, *args, **named).value, value)

    def fails_like(self, kind, value, call, *args, **named):
        """Looks whether the call raises an error that keeps an equal value of the same kind."""
        found = self.failing(kind, call, *args, **named).value
        self.assertEqual((type(found), found), (type(value), value))

    def is_false(self, found, told=None):
        """Looks whether this is False itself."""
        self.assertIs(found, False, told)

    def is_true(self, found, told=None):
        """Looks whether this is True itself."""
        self.assertIs(found, True, told)
