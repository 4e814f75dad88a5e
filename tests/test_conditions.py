"""DOC.md [3], [10], [11]: expressions by form, their parts, and the first wrong one."""

import unittest

from ownrights.conditions import is_condition, is_count, lets_rule, parts_of
from ownrights.errors import UnfitRule
from tests.helpers import ANYTHING, SHOP, TILL, StrictTest, nested

COINS = ("item", "coins")
COUNTS = [
    0, -7, 10 ** 59, COINS, ("item", "item"), ("item", "abcdefgh"), ("+", 1, 2), ("-", COINS, -1),
    ("*", ("+", 1, COINS), ("-", 2, 3)), nested(1, 30, lambda count: ("+", 0, count)),
    nested(1, 30, lambda count: ("-", count, 0)),
]
CONDITIONS = [
    ("=", 1, 2), ("<", COINS, ("*", 2, 2)), ("and", ("=", 1, 2), ("<", 1, 2)), ("or", ("not", ("=", 1, 1)), ("<", 0, 0)),
    ("not", ("=", 1, 1)), nested(("=", 1, 1), 30, lambda rule: ("not", rule)),
    nested(("<", 1, 1), 28, lambda rule: ("or", ("=", 0, 0), rule)),
]
# What is wrong by its own form, whatever kind is due.
WRONG = [
    True, False, None, "", "item", "1", (), [], [1], ["=", 1, 2], ["item", "coins"], (1,), (1, 2), (True, 1, 2), ("",),
    ("item",), ("item", "coins", "coins"), ("item", "Coins"), ("item", ""), ("item", "abcdefghi"), ("item", 1),
    ("item", None), ("item", True), ("item", ("coins",)), ("item", ["coins"]), ("item", "coins\n"),
    ("+",), ("+", 1), ("+", 1, 2, 3), ("-", 1), ("-", 1, 2, 3), ("*", 1), ("*", 1, 2, 3), ("/", 1, 2), ("=",), ("=", 1),
    ("=", 1, 2, 3), ("<", 1), ("<", 1, 2, 3), (">", 1, 2), ("and", ("=", 1, 2)), ("or", ("=", 1, 2)),
    ("and", ("=", 1, 2), ("=", 1, 2), ("=", 1, 2)), ("or", ("=", 1, 2), ("=", 1, 2), ("=", 1, 2)), ("not",),
    ("not", ("=", 1, 2), ("=", 1, 2)), ("NOT", ("=", 1, 2)), (["="], 1, 2), (("=",), 1, 2), (None, 1, 2),
]


class FormTest(StrictTest):
    def test_counts(self):
        for count in COUNTS:
            with self.subTest(count=count):
                self.assert_same(is_count(count), True)
                self.assert_same(is_condition(count), False)

    def test_conditions(self):
        for condition in CONDITIONS:
            with self.subTest(condition=condition):
                self.assert_same(is_condition(condition), True)
                self.assert_same(is_count(condition), False)

    def test_wrong_values(self):
        for value in WRONG:
            with self.subTest(value=value):
                self.assert_same(is_count(value), False)
                self.assert_same(is_condition(value), False)
                for count in (("+", value, 1), ("-", 1, value), ("*", ("+", 1, value), 1)):
                    self.assert_same(is_count(count), False)
                for rule in (("=", value, 1), ("<", 1, value), ("and", value, ("=", 1, 1)), ("or", ("=", 1, 1), value),
                             ("not", value)):
                    self.assert_same(is_condition(rule), False)

    def test_wrong_kinds_inside(self):
        rule = ("=", 1, 2)
        for word in ("+", "-", "*"):
            self.assert_same(is_count((word, rule, 1)), False)
            self.assert_same(is_count((word, 1, rule)), False)
        for word in ("=", "<"):
            self.assert_same(is_condition((word, rule, 1)), False)
            self.assert_same(is_condition((word, 1, rule)), False)
        for word in ("and", "or"):
            self.assert_same(is_condition((word, 1, rule)), False)
            self.assert_same(is_condition((word, rule, COINS)), False)
        self.assert_same(is_condition(("not", COINS)), False)
        self.assert_same(is_condition(("not", 1)), False)

    def test_any_value(self):
        for value in ANYTHING:
            with self.subTest(value=repr(value)[:60]):
                self.assert_same(is_count(value), type(value) is int)
                self.assert_same(is_condition(value), False)

    def test_by_name(self):
        self.assert_same([is_count(thing=1), is_condition(thing=1)], [True, False])


class PartsTest(StrictTest):
    def test_example(self):
        due = (((), ("=", COINS, 1)), ((1,), COINS), ((2,), 1))
        self.assert_same(parts_of(("=", COINS, 1)), due)

    def test_one_part(self):
        self.assert_same(parts_of(-5), (((), -5),))
        self.assert_same(parts_of(COINS), (((), COINS),))

    def test_a_part_before_the_parts_in_it(self):
        product = ("*", ("+", 1, 2), 3)
        one = ("=", product, COINS)
        other = ("not", ("<", 4, ("-", 5, 6)))
        rule = ("or", one, other)
        due = (
            ((), rule), ((1,), one), ((1, 1), product), ((1, 1, 1), ("+", 1, 2)), ((1, 1, 1, 1), 1), ((1, 1, 1, 2), 2),
            ((1, 1, 2), 3), ((1, 2), COINS), ((2,), other), ((2, 1), other[1]), ((2, 1, 1), 4),
            ((2, 1, 2), ("-", 5, 6)), ((2, 1, 2, 1), 5), ((2, 1, 2, 2), 6),
        )
        self.assert_same(parts_of(rule), due)
        self.assert_same(parts_of(expression=rule), due)

    def test_each_path_leads_to_its_part(self):
        for expression in COUNTS + CONDITIONS:
            found = parts_of(expression)
            self.assertEqual([path for path, _ in found], sorted({path for path, _ in found}))
            for path, part in found:
                reached = expression
                for at in path:
                    reached = reached[at]
                self.assert_same(part, reached)

    def test_deep(self):
        self.assertEqual(len(parts_of(nested(1, 30, lambda count: ("+", 0, count)))), 61)


class LetsRuleTest(StrictTest):
    def fails(self, thing, *path):
        self.assert_fails(UnfitRule(path), lets_rule, TILL[0], thing)

    def test_example(self):
        self.fails(("not", ("=", 1, ("item", "cards"))), 1, 2)

    def test_number_of_parts(self):
        for thing, due in ((("=", COINS, 1), 3), (("not", ("=", COINS, COINS)), 4),
                           (("and", ("<", 1, 2), ("or", ("=", 1, COINS), ("not", ("=", ("+", 1, 2), 3)))), 14)):
            self.assert_same(lets_rule(TILL[0], thing), due)
        self.assert_same(lets_rule(SHOP[0], SHOP[1][1]), 6)
        self.assert_same(lets_rule(items=SHOP[0], thing=SHOP[1][0]), 3)
        self.assert_same(lets_rule(TILL[0], nested(("=", 1, 1), 28, lambda rule: ("not", rule))), 31)

    def test_wrong_as_a_whole(self):
        for value in ANYTHING + WRONG + COUNTS:
            with self.subTest(value=repr(value)[:60]):
                self.fails(value)

    def test_wrong_as_a_number(self):
        for value in WRONG + CONDITIONS + [("item", "cards")]:
            with self.subTest(value=value):
                self.fails(("=", value, 1), 1)
                self.fails(("<", 1, value), 2)
                self.fails(("not", ("<", 1, ("+", value, 1))), 1, 2, 1)
                self.fails(("not", ("<", 1, ("-", 1, value))), 1, 2, 2)
                self.fails(("=", ("*", COINS, ("*", value, value)), 1), 1, 2, 1)

    def test_wrong_as_a_condition(self):
        for value in WRONG + COUNTS:
            with self.subTest(value=value):
                self.fails(("not", value), 1)
                self.fails(("and", value, ("=", 1, 1)), 1)
                self.fails(("and", ("=", 1, 1), value), 2)
                self.fails(("or", ("not", value), ("=", 1, 1)), 1, 1)
                self.fails(("or", ("=", 1, 1), ("and", ("=", 1, 1), value)), 2, 2)

    def test_any_value_inside(self):
        for value in ANYTHING:
            if type(value) is not int:
                with self.subTest(value=repr(value)[:60]):
                    self.fails(("=", value, 1), 1)
                    self.fails(("=", 1, ("item", value)), 2)
                    self.fails(("not", value), 1)

    def test_the_first_wrong_part_in_order(self):
        wrong = ("item", "cards")
        self.fails(("and", ("=", 1, wrong), ("=", True, 1)), 1, 2)
        self.fails(("and", ("=", 1, 1), ("=", True, wrong)), 2, 1)
        self.fails(("and", ("not", ("<", 1, ("+", 1, wrong))), None), 1, 1, 2, 2)
        self.fails(("and", ("=", wrong, wrong), ("=", wrong, wrong)), 1, 1)

    def test_a_part_is_wrong_before_the_parts_in_it(self):
        self.fails(("=", ("+", None, 1, 1), 1), 1)
        self.fails(("=", 1, ("and", None, None)), 2)
        self.fails(("xor", None, None))

    def test_names_of_other_items(self):
        self.fails(("=", ("item", "bread"), 1), 1)
        self.assert_fails(UnfitRule((2,)), lets_rule, SHOP[0], ("<", ("item", "bread"), ("item", "breads")))


if __name__ == "__main__":
    unittest.main()
