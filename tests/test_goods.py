"""DOC.md [2], [4], [9], [20]: good states, and where deeds lead."""

import unittest
from itertools import product

from ownrights.errors import UnknownDeed, UnknownHand
from ownrights.goods import good_states, good_sums, good_table, is_good, led, moves
from ownrights.sums import Sums
from tests.direct import ALL_STORES, GRID, NONE_GOOD, RULED, box, good, goods, hands_of, keys_of, plus, step
from tests.helpers import ANYTHING, SHOP, TILL, StrictTest


class GoodStatesTest(StrictTest):
    def test_example(self):
        self.assert_same(list(good_states(TILL)), [(0,), (1,), (2,), (3,), (4,)])

    def test_against_a_look_at_all_states(self):
        for store in ALL_STORES:
            self.assert_same(list(good_states(store)), goods(store))
            self.assert_same(list(good_states(store=store)), sorted(goods(store)))

    def test_numbers(self):
        self.assertEqual([len(list(good_states(store))) for store in (GRID, NONE_GOOD)], [36, 0])

    def test_two_at_once(self):
        one, other = good_states(GRID), good_states(GRID)
        self.assert_same(list(zip(one, other)), [(state, state) for state in goods(GRID)])
        self.assert_same(list(product(good_states(TILL), good_states(TILL))), list(product(goods(TILL), goods(TILL))))

    def test_it_is_a_generator(self):
        states = good_states(TILL)
        self.assertIs(iter(states), states)
        self.assert_same(next(states), (0,))
        self.assert_same(next(states), (1,))
        # Only what is asked for is looked at.
        self.assert_same(next(good_states(((("x", 0, 10 ** 59), ("y", 0, 10 ** 59)), (), TILL[2]))), (0, 0))

    def test_negative_ranges(self):
        store = ((("a", -2, -1), ("b", -12, -11)), (), TILL[2])
        self.assert_same(list(good_states(store)), [(-2, -12), (-2, -11), (-1, -12), (-1, -11)])

    def test_tables(self):
        for store in ALL_STORES:
            self.assert_same(list(good_table(store)), goods(store))
            start = (3,) * len(store[0])
            self.assert_same([plus(start, one) for one in good_sums(store, start)], goods(store))


class IsGoodTest(StrictTest):
    def test_against_a_look_at_all_states(self):
        for store in ALL_STORES:
            for state in box(store, 2):
                self.assert_same(is_good(store, state), good(store, state), (store, state))

    def test_any_value(self):
        for value in ANYTHING:
            if value != (0,):
                self.assert_same(is_good(thing=value, store=TILL), False, value)
            self.assert_same(is_good(SHOP, value), value == (1, 2) and good(SHOP, (1, 2)), value)
        others = [(True,), (False,), ("1",), (None,), [1], ((1,),), (1, 1), (), 1, {1: 1}, Sums(((1,),)), "1", b"1"]
        self.assert_same([is_good(TILL, value) for value in others], [False] * len(others))
        self.assert_same([is_good(RULED, value) for value in ((1, 0), (True, 0), (1, False), [1, 0])],
                         [True, False, False, False])


class LedTest(StrictTest):
    def test_example(self):
        self.assert_same(led(TILL, (4,), ("ann", "put"), ("bob", "take")), (4,))

    def test_no_deed(self):
        state = (4,)
        self.assert_same(led(TILL, state), (4,))
        self.assertIsNot(led(TILL, state), state)

    def test_any_number_of_deeds(self):
        for store in ALL_STORES:
            keys = keys_of(store)
            for some in (keys, keys[::-1], keys * 3):
                for state in box(store, 1)[::5]:
                    self.assert_same(led(store, state, *some), plus(state, *[step(store, key) for key in some]))

    def test_by_name(self):
        self.assert_same(led(state=(9,), store=TILL), (9,))

    def test_unknown_deeds(self):
        for value in ANYTHING + [("bob", "put"), "ann", ("ann",), ["ann", "put"], Sums(())]:
            for keys in ((value,), (("ann", "put"), value, ("x", "y"))):
                with self.assertRaises(UnknownDeed) as caught:
                    led(TILL, (2,), *keys)
                self.assertIs(caught.exception.deed, value)


class MovesTest(StrictTest):
    def test_example(self):
        self.assert_same([moves(TILL, (0,), "ann"), moves(TILL, (0,), "bob")], [("put",), ()])

    def test_against_a_look_at_all_deeds(self):
        for store in ALL_STORES:
            for state in box(store, 1):
                for hand in hands_of(store):
                    due = tuple(key[1] for key in keys_of(store) if key[0] == hand and
                                good(store, plus(state, step(store, key))))
                    self.assert_same(moves(store, state, hand), due)

    def test_unknown_hands(self):
        for value in ANYTHING + ["put", "eve", ("ann", "put")]:
            with self.assertRaises(UnknownHand) as caught:
                moves(hand=value, state=(2,), store=TILL)
            self.assertIs(caught.exception.hand, value)


if __name__ == "__main__":
    unittest.main()
