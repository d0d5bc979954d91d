"""Values of many kinds, to be passed where a test wants a wrong one."""


class EqualsAll:
    """Says that it is equal to everything."""

    def __eq__(self, other):
        return True

    def __ne__(self, other):
        return False

    __hash__ = None


class EqualsNone:
    """Cannot be compared at all."""

    def __eq__(self, other):
        raise AssertionError("a value of another kind was compared")

    def __ne__(self, other):
        raise AssertionError("a value of another kind was compared")

    def __len__(self):
        raise AssertionError("a value of another kind was measured")

    __hash__ = None


def deep(many):
    """A tuple within a tuple, so many deep."""
    value = ()
    for _ in range(many - 1):
        value = (value,)
    return value


def deep_list(many):
    """A list within a list, so many deep."""
    value = []
    for _ in range(many - 1):
        value = [value]
    return value


def other_kinds():
    """Values of all kinds but strings, integers that could be indexes or weights, and tuples of one element or more."""
    return [
        None, True, False, b"", b"ann", b"0", [], ["ann"], ["ann", "bob"], [0], [[1]], [((1,),)],
        {}, {"ann": 1}, {0: 0}, set(), {"ann"}, frozenset(["ann"]), range(2), iter("ann"),
        object(), int, str, tuple, len, ValueError(), NotImplemented, ..., 1j,
        EqualsAll(), EqualsNone(), deep_list(100),
    ]


def all_kinds():
    """Values of all kinds."""
    return other_kinds() + [
        0, 1, -1, 10 ** 79, -(10 ** 79), "", "ann", "\n", "a" * 6000, (), (0,), ("ann", ["bob"]), deep(100),
    ]
