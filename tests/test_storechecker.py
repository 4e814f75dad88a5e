"""DOC.md [3], [4], [12]: whether any value is a store."""

import unittest

from ownrights.errors import InvalidPaper
from ownrights.storechecker import lets_store
from tests.helpers import ANYTHING, SHOP, TILL, StrictTest

ITEMS, RULES, HANDS = SHOP
NAMES_OUT = ["", "abcdefghi", "Ann", "an n", "ann\n", 1, None, True, ("ann",), ["ann"]]
NO_INTEGERS = [True, False, None, "1", (1,), [1]]


class LetsStoreTest(StrictTest):
    def fails(self, word, at, *stores):
        for store in stores:
            with self.subTest(store=repr(store)[:80]):
                self.assert_fails(InvalidPaper(word, at), lets_store, store)

    def shape(self, *stores):
        self.fails("shape", -1, *stores)

    def test_stores(self):
        self.assert_same(lets_store(TILL), 2)
        self.assert_same(lets_store(SHOP), 3)
        self.assert_same(lets_store(thing=((("a", 5, 5),), (), (("a", ()),))), 1)
        big = 10 ** 59
        self.assert_same(lets_store(((("a", -big, big),), (("=", 1, 1),) * 3, (("a", (("a", (big,)),)),))), 1)

    def test_any_value(self):
        self.shape(*ANYTHING)
        for value in ANYTHING:
            if value != ():
                self.shape((value, RULES, HANDS), (ITEMS, RULES, value))
            if type(value) is not tuple:
                self.shape((ITEMS, value, HANDS))
            self.fails("rule", 0, (ITEMS, (value,), HANDS))

    def test_shape_of_the_whole(self):
        self.shape((ITEMS, RULES), (*SHOP, ()), list(SHOP), (ITEMS, list(RULES), HANDS), (list(ITEMS), RULES, HANDS),
                   (ITEMS, RULES, list(HANDS)), (ITEMS, (), ()) + ((),))

    def test_shape_of_items(self):
        for name in NAMES_OUT:
            self.shape((((name, 0, 1),), (), HANDS))
        for value in NO_INTEGERS:
            self.shape(((("a", value, 1),), (), HANDS), ((("a", 1, value),), (), HANDS))
        self.shape(((("a", 0),), (), HANDS), ((("a", 0, 1, 2),), (), HANDS), ((["a", 0, 1],), (), HANDS),
                   (("a", 0, 1), (), HANDS), (((),), (), HANDS), (((("a", 0, 1)), 5), (), HANDS))

    def test_shape_of_hands(self):
        for name in NAMES_OUT:
            self.shape((ITEMS, (), ((name, ()),)), (ITEMS, (), (("ann", ((name, (0, 0)),)),)))
        for value in NO_INTEGERS:
            self.shape((ITEMS, (), (("ann", (("put", (0, value)),)),)))
        self.shape((ITEMS, (), (("ann",),)), (ITEMS, (), (("ann", (), ()),)), (ITEMS, (), (["ann", ()],)),
                   (ITEMS, (), (("ann", []),)), (ITEMS, (), (("ann", (("put",),)),)), (ITEMS, (), ("ann", ())),
                   (ITEMS, (), (("ann", (("put", (0, 0), 0),)),)), (ITEMS, (), (("ann", (["put", (0, 0)],)),)),
                   (ITEMS, (), (("ann", (("put", [0, 0]),)),)), (ITEMS, (), (("ann", ("put", (0, 0))),)),
                   (ITEMS, (), (("ann", ()), ("bob", None))))

    def test_shape_comes_first(self):
        self.shape(((), (), (("ann", None),)), ((("b", 0, 1), ("a", 1, 0)), (5,), ((1, ()),)),
                   (ITEMS, (5,), (("bob", ()), ("ann", (("b", (1,)), ("a", (True,)))))))

    def test_items(self):
        self.fails("items", -1, ((), (), HANDS), ((), (5,), ()))
        self.fails("item", 0, ((("a", 1, 0),), (), HANDS), ((("b", 1, 0), ("a", 0, 1)), (5,), ()))
        self.fails("item", 1, ((("a", 0, 1), ("a", 0, 1)), (), HANDS), ((("b", 0, 1), ("a", 0, 1)), (), HANDS),
                   ((("a", 0, 0), ("b", 1, 0)), (), ()), ((("b", 0, 0), ("a", 0, 0), ("c", 1, 0)), (5,), HANDS))
        self.fails("item", 2, ((("a", 0, 1), ("c", 0, 1), ("b", 0, 1)), (), HANDS))

    def test_rules(self):
        right = ("=", 1, ("item", "coins"))
        for wrong in (5, True, None, ("item", "coins"), [right], list(right), ("=", 1, ("item", "cards")), ("not", 1),
                      ("=", True, 1), ("and", right), (), "="):
            self.fails("rule", 0, (ITEMS, (wrong,), HANDS), (ITEMS, (wrong, right), ()))
            self.fails("rule", 2, (ITEMS, (right, right, wrong), HANDS), (ITEMS, (right, right, wrong, wrong), ()))

    def test_hands(self):
        self.fails("hands", -1, (ITEMS, RULES, ()))
        ann, bob = ("ann", ()), ("bob", ())
        self.fails("hand", 1, (ITEMS, (), (ann, ann)), (ITEMS, (), (bob, ann)), (ITEMS, (), (bob, ann, ann)))
        self.fails("hand", 2, (ITEMS, (), (ann, bob, bob)), (ITEMS, (), (ann, bob, ("aob", ()))))

    def test_deeds(self):
        one = (0, 0)

        def store(*deeds):
            return (ITEMS, (), (("ann", ()), ("bob", deeds), ("bob", ())))

        self.fails("deed", (1, 0), store(("a", (0,))), store(("a", (0, 0, 0))), store(("a", ())),
                   store(("b", (0,)), ("a", one)))
        self.fails("deed", (1, 1), store(("a", one), ("a", one)), store(("b", one), ("a", one)),
                   store(("a", one), ("b", (0,))), store(("b", one), ("a", one), ("c", (1,))))
        self.fails("hand", 2, store(("a", one), ("b", one)))

    def test_a_hand_before_its_deeds(self):
        wrong = (("put", (0,)),)
        self.fails("hand", 1, (ITEMS, (), (("bob", ()), ("ann", wrong))))
        self.fails("deed", (0, 0), (ITEMS, (), (("bob", wrong), ("ann", wrong))))


if __name__ == "__main__":
    unittest.main()
