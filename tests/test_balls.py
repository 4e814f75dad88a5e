"""DOC.md [5], [9], [43]: balls, and how many deeds a hand can surely do."""

import unittest
from itertools import product

from ownrights.adding import added
from ownrights.balls import ball, sure_number
from ownrights.deeds import deeds_of, sum_of
from ownrights.errors import UnknownHand
from tests.helpers import ANYTHING, BOTH, SHOP, TILL, StrictTest

# The hands of this one have a deed that changes nothing, deeds of two items, no deed.
STILL = ((("a", 0, 9), ("b", 0, 9)), (), (("ann", (("wait", (0, 0)),)), ("bob", (("x", (1, 0)), ("y", (-1, 2)))),
                                         ("eve", ())))


def ball_by_hand(store, hand, n):
    """The sums of all lists of at most n deeds."""
    steps = [sum_of(store, (hand, deed)) for deed in deeds_of(store, hand)]
    zero = (0,) * len(store[0])
    lists = [some for many in range(n + 1) for some in product(steps, repeat=many)]
    return tuple(sorted({added(zero, *some) for some in lists}))


class BallTest(StrictTest):
    def test_small_ones(self):
        self.assert_same(ball(TILL, "ann", 0), ((0,),))
        self.assert_same(ball(TILL, "ann", 1), ((-1,), (0,), (1,)))
        self.assert_same(ball(TILL, "bob", 3), ((-3,), (-2,), (-1,), (0,)))
        self.assert_same(ball(n=2, hand="bob", store=TILL), ((-2,), (-1,), (0,)))

    def test_against_all_lists(self):
        for store in (TILL, SHOP, STILL):
            for hand, _ in store[2]:
                for n in range(5):
                    with self.subTest(hand=hand, n=n):
                        self.assert_same(ball(store, hand, n), ball_by_hand(store, hand, n))

    def test_no_deed_leads_anywhere(self):
        self.assert_same(ball(STILL, "ann", 10 ** 30), ((0, 0),))
        self.assert_same(ball(STILL, "eve", 10 ** 30), ((0, 0),))

    def test_unknown_hands(self):
        for value in ANYTHING + ["put", "eve"]:
            with self.subTest(value=repr(value)[:60]):
                with self.assertRaises(UnknownHand) as caught:
                    ball(TILL, value, 1)
                self.assertIs(caught.exception.hand, value)


class SureNumberTest(StrictTest):
    def test_small_ones(self):
        self.assert_same(sure_number(TILL, BOTH[0], (0,), "ann", 6), 1)
        self.assert_same(sure_number(TILL, BOTH[0], (1,), "ann", 6), 0)
        self.assert_same(sure_number(TILL, BOTH[0], (1,), "bob", 6), 2)
        self.assert_same(sure_number(TILL, BOTH[0], (1,), "bob", 1), 1)
        self.assert_same(sure_number(TILL, BOTH[0], (0,), "ann", 0), 0)
        self.assert_same(sure_number(most=2, hand="bob", done=(1,), right=BOTH[0], store=TILL), 2)

    def test_done_outside_of_the_right(self):
        self.assert_same(sure_number(TILL, BOTH[0], (2,), "ann", 6), None)
        self.assert_same(sure_number(TILL, BOTH[1], (1,), "bob", 0), None)

    def test_against_the_definition(self):
        rights = [tuple((x,) for x in range(-4, 5) if bits >> (x + 4) & 1) for bits in range(1, 512, 7)]
        for right in rights:
            for done in range(-5, 6):
                for hand in ("ann", "bob"):
                    due = None
                    if (done,) in right:
                        due = max(n for n in range(7)
                                  if all(added((done,), one) in right for one in ball_by_hand(TILL, hand, n)))
                    self.assert_same(sure_number(TILL, right, (done,), hand, 6), due, (right, done, hand))

    def test_two_items(self):
        right = tuple(sorted([(0, 0), (1, 0), (-1, 2), (2, 0), (0, 2), (-2, 4)]))
        self.assert_same(sure_number(STILL, right, (0, 0), "bob", 6), 2)
        self.assert_same(sure_number(STILL, right[1:], (0, 0), "bob", 6), 1)

    def test_no_deed_leads_anywhere(self):
        for hand in ("ann", "eve"):
            self.assert_same(sure_number(STILL, ((0, 0),), (0, 0), hand, 6), 6)
            self.assert_same(sure_number(STILL, ((0, 0),), (0, 0), hand, 10 ** 30), 10 ** 30)

    def test_unknown_hands_come_first(self):
        for value in ANYTHING + ["put", "eve"]:
            for done in ((0,), (9,)):
                with self.subTest(value=repr(value)[:60]):
                    with self.assertRaises(UnknownHand) as caught:
                        sure_number(TILL, BOTH[0], done, value, 3)
                    self.assertIs(caught.exception.hand, value)


if __name__ == "__main__":
    unittest.main()
