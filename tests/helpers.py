"""What several test files need: the store of DOC.md, any values, and strict comparisons."""

import unittest

TILL = ((("coins", 0, 4),), (), (("ann", (("put", (1,)), ("take", (-1,)))), ("bob", (("take", (-1,)),))))
START = (2,)
BOTH = (((-1,), (0,), (1,)), ((-1,), (0,)))

# Two items, two rules, three hands, one of them without deeds.
SHOP = (
    (("bread", 0, 9), ("coins", -3, 12)),
    (("<", ("item", "bread"), 9), ("not", ("=", ("item", "coins"), ("*", 2, ("item", "bread"))))),
    (
        ("ann", (("bake", (1, 0)), ("buy", (-1, 2)))),
        ("bob", ()),
        ("eve", (("rob", (0, -12)),)),
    ),
)


def nested(core, deep, make=lambda value: (value,)):
    """A value that stands within deep others."""
    for _ in range(deep):
        core = make(core)
    return core


# Values of every kind of DOC.md [2], none of which is a name, a key or a hand of the stores above.
ANYTHING = [
    0, 1, -1, 7, 10 ** 59, -(10 ** 59), 10 ** 60 - 1, True, False, None,
    "", " ", "a" * 9, "Ann", "ann ", " ann", "ann\n", "a-b", "an1", "item coins", "\n",
    (), (0,), (1, 2), (True,), (None,), ("ann",), ("ann", "put", "take"), ((),), ((0,), (0,)),
    [], [0], ["ann", "put"], [[1]], ("ann", ["put"]), (["ann"], "put"), [("ann", "put")],
    nested(1, 30), nested("ann", 30), nested((), 29), nested(1, 30, lambda value: [value]),
    nested(True, 15, lambda value: ([value], "x")), tuple(range(4999)), ("x",) * 4999, [None] * 4999,
]


def same(one, other):
    """Whether two values are equal and of equal kinds throughout, so that True is not 1 and a list no tuple."""
    if type(one) is not type(other):
        return False
    if isinstance(one, (tuple, list)):
        return len(one) == len(other) and all(same(x, y) for x, y in zip(one, other))
    return one == other


class StrictTest(unittest.TestCase):
    """Assertions that look at kinds, too."""

    # Messages are made only if something is wrong: some values are too deep to be shown.

    def assert_same(self, found, due, told=None):
        if not same(found, due):
            self.fail(f"{found!r} instead of {due!r} {told if told is not None else ''}")

    def assert_fails(self, due, call, *values, **named):
        """Make sure that the call raises exactly the due error: its class and its fields."""
        try:
            found = call(*values, **named)
        except Exception as error:
            if type(error) is not type(due):
                self.fail(f"{error!r} for {values!r} {named!r}")
            self.assertEqual(sorted(vars(error)), sorted(vars(due)))
            for name in vars(due):
                self.assert_same(getattr(error, name), getattr(due, name), (name, values, named))
        else:
            self.fail(f"{found!r} instead of {due!r} {vars(due)} for {values!r} {named!r}")
