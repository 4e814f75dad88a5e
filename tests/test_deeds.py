"""DOC.md [4], [9], [14]: the deeds of a store."""

import unittest

from ownrights.deeds import all_keys, deeds_of, hand_names, sum_of
from ownrights.errors import UnknownDeed, UnknownHand
from ownrights.sums import Sums
from tests.helpers import ANYTHING, SHOP, TILL, StrictTest


class DeedsTest(StrictTest):
    def test_example(self):
        self.assert_same(sum_of(TILL, ("ann", "take")), (-1,))

    def test_deeds_of(self):
        self.assert_same(deeds_of(TILL, "ann"), ("put", "take"))
        self.assert_same(deeds_of(TILL, "bob"), ("take",))
        self.assert_same(deeds_of(SHOP, "bob"), ())
        self.assert_same(deeds_of(hand="eve", store=SHOP), ("rob",))

    def test_sum_of(self):
        self.assert_same(sum_of(SHOP, ("ann", "buy")), (-1, 2))
        self.assert_same(sum_of(key=("eve", "rob"), store=SHOP), (0, -12))
        self.assertIsNot(sum_of(TILL, ("ann", "put")), TILL[2][0][1][0][1])

    def test_all_keys(self):
        self.assert_same(all_keys(TILL), (("ann", "put"), ("ann", "take"), ("bob", "take")))
        self.assert_same(all_keys(store=SHOP), (("ann", "bake"), ("ann", "buy"), ("eve", "rob")))
        self.assert_same(all_keys((TILL[0], (), (("ann", ()),))), ())

    def test_hand_names(self):
        self.assert_same([hand_names(TILL), hand_names(SHOP)], [("ann", "bob"), ("ann", "bob", "eve")])

    def test_unknown_hands(self):
        for value in ANYTHING + ["put", "take", "anna", "an", "eve", ("ann", "put"), Sums(((0,),))]:
            with self.subTest(value=repr(value)[:60]):
                with self.assertRaises(UnknownHand) as caught:
                    deeds_of(TILL, value)
                self.assertIs(caught.exception.hand, value)

    def test_unknown_deeds(self):
        near = ["ann", "put", ("ann",), ("put", "ann"), ("bob", "put"), ("ann", "put", "put"), ["ann", "put"],
                ("ann", ("put",)), (("ann", "put"),), ("eve", "rob"), ("ann", ""), "annput", Sums(((0,),))]
        for value in ANYTHING + near:
            with self.subTest(value=repr(value)[:60]):
                with self.assertRaises(UnknownDeed) as caught:
                    sum_of(TILL, value)
                self.assertIs(caught.exception.deed, value)


if __name__ == "__main__":
    unittest.main()
