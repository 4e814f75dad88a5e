"""DOC.md [4], [9], [12], [14], [16], [17] to [19]: stores as objects."""

import unittest

from ownrights.errors import InvalidPaper, InvalidText, UnknownDeed
from ownrights.goods import good_states
from ownrights.storechecker import lets_store
from ownrights.storeclasses import Store
from ownrights.storereadings import store_read
from ownrights.storetexts import store_text
from ownrights.terms import Count, Rule
from tests.direct import ALL_STORES, IDLE, goods, hands_of, keys_of
from tests.helpers import ANYTHING, SHOP, TILL, StrictTest

coins = Count.item("coins")
FEW = ("<", ("item", "coins"), 5)


def of(store):
    return Store(store[0], store[2], *store[1])


def error_of(call, *values):
    """The class and the fields of the error that a call raises, or None."""
    try:
        call(*values)
    except Exception as error:
        return type(error), vars(error)
    return None


class MadeTest(StrictTest):
    def test_example(self):
        store = Store(TILL[0], TILL[2], coins.less(5))
        self.assert_same([store.rule_rows, [hand for hand in store], len(store.without_deed(("ann", "put")).hand_rows[0][1])],
                         [(FEW,), ["ann", "bob"], 1])

    def test_parts(self):
        for form in ALL_STORES:
            store = of(form)
            self.assert_same([store.item_rows, store.rule_rows, store.hand_rows, store.form], [*form, form])
            self.assert_same(Store(form[0], form[2], *[Rule(rule) for rule in form[1]]).form, form)
        self.assert_same(Store(items=TILL[0], hands=TILL[2]).form, TILL)
        mixed = Store(TILL[0], TILL[2], coins.less(5), FEW, ~coins.equals(2))
        self.assert_same(mixed.rule_rows, (FEW, FEW, ("not", ("=", ("item", "coins"), 2))))

    def test_hands(self):
        for form in ALL_STORES:
            store = of(form)
            self.assert_same(list(store), hands_of(form))
            self.assert_same(tuple(store), tuple(hands_of(form)))
            self.assert_same(list(iter(store)), hands_of(form))
            self.assert_same(len(store), len(form[2]))
            for hand in hands_of(form):
                self.assert_same(hand in store, True)
            for value in [*ANYTHING, "put", "annn", ("ann",), store, coins]:
                self.assert_same(value in store, False)

    def test_equality(self):
        for form in ALL_STORES:
            for other in ALL_STORES:
                self.assert_same(of(form) == of(other), form == other)
                self.assert_same(of(form) != of(other), form != other)
            for value in [*ANYTHING, form, store_text(form)]:
                self.assert_same(of(form) == value, False)
                self.assert_same(value == of(form), False)
        self.assert_same(Store(TILL[0], TILL[2], FEW) == Store(TILL[0], TILL[2], coins.less(5)), True)
        self.assert_same(Store(TILL[0], TILL[2], FEW) == of(TILL), False)

    def test_any_values(self):
        # The errors of lets_store, whatever stands at one of the places.
        calls = [lambda value: (value, TILL[2]), lambda value: (TILL[0], value), lambda value: (TILL[0], TILL[2], value),
                 lambda value: (TILL[0], TILL[2], FEW, value), lambda value: (value, value, value),
                 lambda value: ((value,), TILL[2]), lambda value: (TILL[0], (value,)), lambda value: (TILL[0], ((value, ()),)),
                 lambda value: (TILL[0], (("ann", ((value, (1,)),)),)), lambda value: (TILL[0], (("ann", (("put", value),)),))]
        wrong = 0
        for value in [*ANYTHING, TILL[0], TILL[2], FEW, ("<", ("item", "bread"), 5), (("b", 1, 0),), of(TILL)]:
            for call in calls:
                items, hands, *rules = call(value)
                due = error_of(lets_store, (items, tuple(rules), hands))
                if due is None:
                    self.assert_same(Store(items, hands, *rules).form, (items, tuple(rules), hands))
                else:
                    wrong += 1
                    self.assert_fails(due[0](**due[1]), Store, items, hands, *rules)
        self.assertGreater(wrong, 300)

    def test_wrong_rules(self):
        self.assert_fails(InvalidPaper("rule", 0), Store, TILL[0], TILL[2], coins)
        self.assert_fails(InvalidPaper("rule", 1), Store, TILL[0], TILL[2], FEW, Count.item("bread").less(1), None)
        self.assert_fails(InvalidPaper("rule", 2), Store, TILL[0], TILL[2], FEW, coins.less(1), (coins.less(1),))
        self.assert_fails(InvalidPaper("items", -1), Store, (), (), None)
        self.assert_fails(InvalidPaper("shape", -1), Store, TILL[0], list(TILL[2]), None)

    def test_they_never_change(self):
        store = of(TILL)
        for name in ("form", "item_rows", "rule_rows", "hand_rows"):
            with self.assertRaises(AttributeError):
                setattr(store, name, ())
        self.assertTrue([store.with_rule(FEW), store.without_deed(("ann", "put")), list(store), str(store)])
        self.assert_same(store.form, TILL)


class OthersTest(StrictTest):
    def test_one_rule_more(self):
        for form in ALL_STORES:
            name = form[0][0][0]
            rule = Count.item(name).less(2)
            for one in (rule, rule.form):
                more = of(form).with_rule(one)
                self.assertIs(type(more), Store)
                self.assert_same(more.form, (form[0], (*form[1], rule.form), form[2]))
                self.assert_same(list(good_states(more.form)), [state for state in goods(form) if state[0] < 2])
        self.assert_same(of(TILL).with_rule(rule=FEW).with_rule(~coins.equals(1)).rule_rows,
                         (FEW, ("not", ("=", ("item", "coins"), 1))))

    def test_rules_that_are_none(self):
        for value in [*ANYTHING, coins, TILL, ("=", 1), of(TILL), (FEW,), ("<", ("item", "flour"), 1), ("not", FEW, FEW)]:
            self.assert_fails(InvalidPaper("rule", 0), of(TILL).with_rule, value)
            self.assert_fails(InvalidPaper("rule", 2), of(SHOP).with_rule, value)
        self.assert_fails(InvalidPaper("rule", 0), of(TILL).with_rule, Count.item("bread").less(1))

    def test_without_a_deed(self):
        for form in ALL_STORES:
            for key in keys_of(form):
                less = of(form).without_deed(key)
                self.assertIs(type(less), Store)
                self.assert_same([less.item_rows, less.rule_rows, hands_of(less.form)], [form[0], form[1], hands_of(form)])
                self.assert_same(keys_of(less.form), [one for one in keys_of(form) if one != key])
        self.assert_same(of(TILL).without_deed(key=("bob", "take")).hand_rows, (TILL[2][0], ("bob", ())))

    def test_deeds_that_are_none(self):
        for value in [*ANYTHING, "ann", ("bob", "put"), ["ann", "put"], ("ann", "put", 1), of(TILL), coins]:
            for form in (TILL, SHOP, IDLE):
                with self.assertRaises(UnknownDeed) as caught:
                    of(form).without_deed(value)
                self.assertIs(caught.exception.deed, value)

    def test_texts(self):
        for form in ALL_STORES:
            self.assert_same(str(of(form)), store_text(form))
            read = Store.parsed(str(of(form)))
            self.assertIs(type(read), Store)
            self.assert_same(read.form, form)
            self.assert_same(read == of(form), True)
        self.assert_same(str(of(TILL)), "item coins 0 4\nhand ann\ndeed put 1\ndeed take -1\nhand bob\ndeed take -1")
        self.assert_same(Store.parsed(text="item a 0 1\nrule not = item a 1\nhand b").form,
                         ((("a", 0, 1),), (("not", ("=", ("item", "a"), 1)),), (("b", ()),)))

    def test_texts_that_write_none(self):
        texts = [value for value in ANYTHING if type(value) is str]
        texts += ["item coins 0 4", "item coins 0 4\ndeed take -1", "item coins 0 4\nhand ann\n", "hand ann", "\nitem a 0 1"]
        for text in texts:
            due = error_of(store_read, text)
            self.assertIs(due[0], InvalidText)
            self.assert_fails(InvalidText(**due[1]), Store.parsed, text)
        # What can be read need not be a store.
        for text, word, at in (("item b 0 1\nitem a 0 1\nhand c", "item", 1), ("item a 1 0\nhand c", "item", 0),
                               ("item a 0 1\nrule = item b 1\nhand c", "rule", 0), ("item a 0 1\nhand c\nhand b", "hand", 1),
                               ("item a 0 1\nhand c\ndeed d 1,2", "deed", (0, 0))):
            self.assert_fails(InvalidPaper(word, at), Store.parsed, text)


if __name__ == "__main__":
    unittest.main()
