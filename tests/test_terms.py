"""DOC.md [3], [9], [11], [13], [15], [17]: numbers and conditions as objects."""

import inspect
import random
import unittest

from ownrights.conditions import is_condition, is_count, parts_of
from ownrights.errors import UnfitRule
from ownrights.storetexts import expression_text
from ownrights.terms import Count, Rule
from tests.direct import value
from tests.helpers import ANYTHING, SHOP, TILL, StrictTest
from tests.test_conditions import CONDITIONS, COUNTS, WRONG

COINS = ("item", "coins")
coins, bread = Count(COINS), Count(("item", "bread"))
few = coins.less(3)


def first_wrong(thing, counts):
    """The path of the first part that is wrong by form, looked for part by part, or None."""
    if type(thing) is int:
        return None if counts else ()
    words = {"+": 2, "-": 2, "*": 2} if counts else {"=": 2, "<": 2, "and": 2, "or": 2, "not": 1}
    if type(thing) is not tuple or not thing or type(thing[0]) is not str:
        return ()
    if counts and thing[0] == "item":
        name = thing[1] if len(thing) == 2 else None
        return None if type(name) is str and 1 <= len(name) <= 8 and all("a" <= one <= "z" for one in name) else ()
    if words.get(thing[0]) != len(thing) - 1:
        return ()
    for at in range(1, len(thing)):
        path = first_wrong(thing[at], thing[0] in ("+", "-", "*", "=", "<"))
        if path is not None:
            return (at, *path)
    return None


def some_count(chance, deep):
    """A number by form, drawn by chance."""
    if deep == 0 or chance.random() < 0.3:
        return chance.choice([-3, 0, 1, 12, COINS, ("item", "bread")])
    return (chance.choice("+-*"), some_count(chance, deep - 1), some_count(chance, deep - 1))


def some_rule(chance, deep):
    word = chance.choice(["=", "<", "and", "or", "not"] if deep else ["=", "<"])
    if word in ("=", "<"):
        return (word, some_count(chance, 2), some_count(chance, 2))
    if word == "not":
        return (word, some_rule(chance, deep - 1))
    return (word, some_rule(chance, deep - 1), some_rule(chance, deep - 1))


def drawn(seed, many):
    """Objects of both classes."""
    chance = random.Random(seed)
    return ([Count(some_count(chance, 3)) for _ in range(many)], [Rule(some_rule(chance, 2)) for _ in range(many)])


class MadeTest(StrictTest):
    def test_example(self):
        found = [(2 - coins).form, (coins * 3)(TILL[0], (4,)), str(~coins.less(1) & coins.equals(coins))]
        self.assert_same(found, [("-", 2, COINS), 12, "and not < item coins 1 = item coins item coins"])

    def test_forms(self):
        for count in COUNTS:
            self.assert_same(Count(count).form, count)
            self.assert_same(Count(expression=count).form, count)
        for rule in CONDITIONS:
            self.assert_same(Rule(rule).form, rule)
            self.assert_same(Rule(expression=rule).form, rule)

    def test_any_values(self):
        rule = ("=", 1, 2)
        values = [*ANYTHING, *WRONG, *COUNTS, *CONDITIONS, rule, ("+", rule, 1), ("not", 1), ("=", 1, ("+", 2, rule)),
                  ("and", rule, ("or", rule, 7)), ("not", ("not", COINS)), coins, few, ("+", coins, 1), ("not", few)]
        values += [(word, value, 1) for word in ("+", "*", "=") for value in WRONG]
        values += [("and", rule, ("not", value)) for value in WRONG]
        for thing in values:
            for made, counts, is_one in ((Count, True, is_count), (Rule, False, is_condition)):
                path = first_wrong(thing, counts)
                self.assert_same(is_one(thing), path is None)
                if path is None:
                    self.assert_same(made(thing).form, thing)
                else:
                    self.assert_fails(UnfitRule(path), made, thing)

    def test_the_first_wrong_part(self):
        self.assert_fails(UnfitRule((1,)), Count, ("+", True, None))
        self.assert_fails(UnfitRule((1, 2)), Count, ("*", ("+", 1, ("=", 1, 1)), "x"))
        self.assert_fails(UnfitRule((2, 1, 1)), Rule, ("and", ("=", 1, 2), ("not", ("not", 1))))
        self.assert_fails(UnfitRule(()), Rule, COINS)
        self.assert_fails(UnfitRule(()), Count, ("<", 1, 2))

    def test_items(self):
        for name in ("a", "coins", "item", "abcdefgh"):
            self.assert_same(Count.item(name).form, ("item", name))
            self.assertIs(type(Count.item(name=name)), Count)
        for thing in [*ANYTHING, "abcdefghi", "A", "a1", b"a", coins]:
            if thing != "ann":
                self.assert_fails(UnfitRule(()), Count.item, thing)

    def test_they_never_change(self):
        for one in (coins, few):
            with self.assertRaises(AttributeError):
                one.form = 1
        kept = (coins.form, few.form)
        self.assertTrue([coins + 1, 1 - coins, coins * coins, few & few, few | ~few, coins.less(2), coins.equals(bread)])
        self.assert_same((coins.form, few.form), kept)


class BothTest(StrictTest):
    def test_lengths_parts_and_texts(self):
        for one in [*map(Count, COUNTS), *map(Rule, CONDITIONS), *drawn(15, 40)[0], *drawn(16, 40)[1]]:
            due = [part for _, part in parts_of(one.form)]
            self.assert_same(len(one), len(due))
            self.assert_same(list(one.parts()), due)
            self.assertTrue(inspect.isgenerator(one.parts()))
            self.assert_same(str(one), expression_text(one.form))

    def test_small_ones(self):
        self.assert_same([len(Count(5)), len(coins), len(coins + 1), len(~few)], [1, 1, 3, 4])
        self.assert_same(list((coins + 1).parts()), [("+", COINS, 1), COINS, 1])
        self.assert_same(list((~few).parts()), [("not", ("<", COINS, 3)), ("<", COINS, 3), COINS, 3])
        self.assert_same([str(Count(-5)), str(coins - -1), str(few)], ["-5", "- item coins -1", "< item coins 3"])
        self.assertEqual(next((coins * 2).parts()), ("*", COINS, 2))

    def test_equality(self):
        counts, rules = drawn(17, 12)
        for one in counts + rules:
            for other in counts + rules:
                self.assert_same(one == other, type(one) is type(other) and one.form == other.form)
                self.assert_same(one != other, not one == other)
            self.assert_same(one == type(one)(one.form), True)
            for thing in [*ANYTHING, one.form, str(one)]:
                self.assert_same(one == thing, False)
                self.assert_same(thing == one, False)

    def test_values(self):
        counts, rules = drawn(18, 60)
        states = [(x, y) for x in (-3, 0, 2, 9) for y in (-1, 0, 4)]
        told = set()
        for one in counts + rules:
            for state in states:
                found = one(SHOP[0], state)
                due = value(one.form, dict(zip(("bread", "coins"), state)))
                self.assert_same(found, due)
                if type(one) is Rule:
                    told.add(found)
        self.assertEqual(told, {True, False})
        # Any sum for the items is a state here.
        self.assert_same([coins(SHOP[0], (0, -99)), (coins + bread)(SHOP[0], (10 ** 59, 1)), few(TILL[0], (3,))],
                         [-99, 10 ** 59 + 1, False])

    def test_other_items(self):
        self.assert_fails(UnfitRule(()), bread, TILL[0], (4,))
        self.assert_fails(UnfitRule((2,)), coins + bread, TILL[0], (4,))
        self.assert_fails(UnfitRule((1, 1)), (bread * bread) - Count.item("x"), SHOP[0][1:], (4,))
        self.assert_fails(UnfitRule((1, 2)), few.__class__(("not", ("=", COINS, ("item", "bread")))), TILL[0], (4,))
        self.assert_fails(UnfitRule((2, 1, 1)), few & ~bread.less(coins), TILL[0], (4,))
        # A part that is not looked at for the value is wrong, too.
        self.assert_fails(UnfitRule((2, 1)), coins.less(9) | bread.less(1), TILL[0], (4,))
        self.assert_same((coins.less(9) | bread.less(1))(SHOP[0], (5, 5)), True)


class SignsTest(StrictTest):
    def test_counts_from_both_sides(self):
        for other in (0, -5, 10 ** 59):
            self.assert_same([(coins + other).form, (coins - other).form, (coins * other).form],
                             [("+", COINS, other), ("-", COINS, other), ("*", COINS, other)])
            self.assert_same([(other + coins).form, (other - coins).form, (other * coins).form],
                             [("+", other, COINS), ("-", other, COINS), ("*", other, COINS)])
            self.assert_same([coins.less(other).form, coins.equals(other).form], [("<", COINS, other), ("=", COINS, other)])
        for one in (coins + bread, coins - bread, coins * bread, 1 + coins, 1 - coins, 2 * coins):
            self.assertIs(type(one), Count)

    def test_counts_of_counts(self):
        counts = drawn(19, 10)[0]
        for one in counts:
            for other in counts:
                self.assert_same([(one + other).form, (one - other).form, (one * other).form],
                                 [("+", one.form, other.form), ("-", one.form, other.form), ("*", one.form, other.form)])
                for rule, word in ((one.less(other), "<"), (one.equals(other), "=")):
                    self.assertIs(type(rule), Rule)
                    self.assert_same(rule.form, (word, one.form, other.form))

    def test_rules(self):
        rules = drawn(20, 10)[1]
        for one in rules:
            self.assert_same((~one).form, ("not", one.form))
            for other in rules:
                self.assert_same([(one & other).form, (one | other).form],
                                 [("and", one.form, other.form), ("or", one.form, other.form)])
        for one in (few & few, few | few, ~few):
            self.assertIs(type(one), Rule)

    def test_the_values_of_what_is_made(self):
        for x in range(-3, 6):
            state = (x,)
            self.assert_same([(coins + 2)(TILL[0], state), (2 + coins)(TILL[0], state), (coins - 2)(TILL[0], state),
                              (2 - coins)(TILL[0], state), (coins * 2)(TILL[0], state), (2 * coins)(TILL[0], state)],
                             [x + 2, x + 2, x - 2, 2 - x, x * 2, x * 2])
            self.assert_same([few(TILL[0], state), coins.equals(2)(TILL[0], state), (~few)(TILL[0], state)],
                             [x < 3, x == 2, x >= 3])
            self.assert_same([(few & coins.equals(2))(TILL[0], state), (few | coins.equals(4))(TILL[0], state)],
                             [x == 2, x < 3 or x == 4])


if __name__ == "__main__":
    unittest.main()
