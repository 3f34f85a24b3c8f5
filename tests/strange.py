"""Values of many classes, for arguments that take any value."""


class Stranger:
    """An object that no part of the program knows."""


class Agreeable:
    """An object that says that it is equal to everything and greater than nothing."""

    def __eq__(self, other):
        return True

    def __ne__(self, other):
        return False

    def __len__(self):
        return 3


class Touchy:
    """An object that fails however it is compared, measured, looked up or iterated over."""

    def fail(self, *others):
        raise RuntimeError("touched")

    __eq__ = __ne__ = __lt__ = __le__ = __gt__ = __ge__ = __len__ = __bool__ = __iter__ = __hash__ = fail
    __index__ = __int__ = __str__ = __getitem__ = __contains__ = __add__ = __mul__ = fail

    def __repr__(self):
        return "Touchy()"


# None of these is an integer, a string or a tuple.
ODD = (
    None, True, False, b"", b"from 0 value 0 step 100", [], [0], [(0, 0, 100)], {}, {0: 1}, set(), {0},
    frozenset(), range(3), object(), Stranger(), Stranger, Agreeable(), Touchy(), len, ValueError("odd"),
    NotImplemented, ...,
)
STRINGS = ("", "0", "1", "10", "plain", "from 0 value 0 step 100")
INTEGERS = (-1, 0, 1, 3, 10 ** 30, -10 ** 79)
TUPLES = ((), (0,), (0, 0, 100), ((0, 0, 100),), (None,), ((),))
