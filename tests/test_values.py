"""DOC.md [3], [13]: the values of expressions in a state."""

import unittest

from ownrights.values import holds_in, value_in
from tests.helpers import SHOP, StrictTest, nested

ITEMS = SHOP[0]
BREAD, COINS = ("item", "bread"), ("item", "coins")
YES, NO = ("=", 1, 1), ("<", 1, 1)
BIG = 10 ** 60 - 1


class ValueTest(StrictTest):
    def test_integers(self):
        for one in (0, 5, -5, BIG, -BIG):
            self.assert_same(value_in(ITEMS, (3, 4), one), one)

    def test_items(self):
        self.assert_same(value_in(ITEMS, (3, -4), BREAD), 3)
        self.assert_same(value_in(ITEMS, (3, -4), COINS), -4)
        self.assert_same(value_in(count=COINS, state=(BIG, -BIG), items=ITEMS), -BIG)

    def test_words(self):
        self.assert_same(value_in(ITEMS, (3, -4), ("+", BREAD, COINS)), -1)
        self.assert_same(value_in(ITEMS, (3, -4), ("-", BREAD, COINS)), 7)
        self.assert_same(value_in(ITEMS, (3, -4), ("*", BREAD, COINS)), -12)
        self.assert_same(value_in(ITEMS, (3, -4), ("-", ("*", 2, ("+", BREAD, 1)), ("-", COINS, 10))), 22)
        self.assert_same(value_in(ITEMS, (BIG, 1), ("*", BREAD, BREAD)), BIG * BIG)

    def test_deep(self):
        self.assert_same(value_in(ITEMS, (3, 0), nested(BREAD, 30, lambda count: ("-", 1, count))), 3)
        self.assert_same(value_in(ITEMS, (3, 0), nested(BREAD, 10, lambda count: ("+", count, count))), 3 * 2 ** 10)
        self.assert_same(value_in(ITEMS, (3, 0), nested(BREAD, 29, lambda count: ("-", 1, count))), -2)


class HoldsTest(StrictTest):
    def test_comparing(self):
        for one in (-2, -1, 0, 1, 2):
            for other in (-2, -1, 0, 1, 2):
                self.assert_same(holds_in(ITEMS, (one, other), ("=", BREAD, COINS)), one == other)
                self.assert_same(holds_in(ITEMS, (one, other), ("<", BREAD, COINS)), one < other)
                self.assert_same(holds_in(ITEMS, (one, other), ("<", ("+", BREAD, 1), COINS)), one + 1 < other)

    def test_joining(self):
        rows = ((YES, YES, True, True), (YES, NO, False, True), (NO, YES, False, True), (NO, NO, False, False))
        for one, other, both, some in rows:
            self.assert_same(holds_in(ITEMS, (0, 0), ("and", one, other)), both)
            self.assert_same(holds_in(ITEMS, (0, 0), ("or", one, other)), some)
        self.assert_same(holds_in(ITEMS, (0, 0), ("not", YES)), False)
        self.assert_same(holds_in(ITEMS, (0, 0), ("not", NO)), True)

    def test_nested(self):
        rule = ("or", ("and", ("<", BREAD, 3), ("not", ("=", COINS, 5))), ("=", BREAD, COINS))
        for bread in range(0, 7):
            for coins in range(0, 7):
                due = bread < 3 and coins != 5 or bread == coins
                self.assert_same(holds_in(condition=rule, items=ITEMS, state=(bread, coins)), due)
        self.assert_same(holds_in(ITEMS, (0, 0), nested(YES, 29, lambda inner: ("not", inner))), False)
        self.assert_same(holds_in(ITEMS, (0, 0), nested(YES, 30, lambda inner: ("not", inner))), True)

    def test_states_need_not_be_good(self):
        self.assert_same(holds_in(ITEMS, (-100, 100), SHOP[1][0]), True)
        self.assert_same(holds_in(ITEMS, (-100, -200), SHOP[1][1]), False)


if __name__ == "__main__":
    unittest.main()
