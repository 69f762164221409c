"""Values of all kinds, for calls that take any value."""


class Unwilling:
    """An object that can neither be compared nor hashed nor tested."""

    __hash__ = None

    def __eq__(self, other):
        raise AssertionError("compared")

    def __bool__(self):
        raise AssertionError("tested")

    def __len__(self):
        raise AssertionError("measured")

    def __repr__(self):
        raise AssertionError("shown")


class Agreeing:
    """An object that says that it is equal to everything."""

    __hash__ = None

    def __eq__(self, other):
        return True


def odd_values():
    """Values none of which is a word, a date, an integer, a list, a tuple, a dict or an own object."""
    return [None, True, False, 1.5, float("nan"), "", "A", "a b", "abcdefghi", "\u00e4", b"bolt", {1}, object(),
            len, int, range(3), Unwilling(), Agreeing(), NotImplemented, ...]


def all_odd_values():
    """The same, and some that may be integers, lists, tuples or dicts of a wrong form."""
    return odd_values() + [-1, 10000, 10 ** 40, [], (), {}, [[]], ((),), {1: 2}, [None], ("bolt",), ["bolt"]]
