"""DOC.md [7] (U5), [9], [26], [27], [28], [30]: what hands can do from a state, each looking at its own copy only."""

import unittest
from itertools import permutations, product

from ownrights.apart import comes_to, fewest_asked_at, may_go_apart, shortest_harm, states_apart, whole
from ownrights.clashing import free_sets
from ownrights.errors import UnknownDeed, UnknownHand
from ownrights.families import is_safe
from tests.direct import (
    ALL_STORES, GRID, IDLE, NONE_GOOD, ONE_GOOD, STORES, good, goods, hands_of, keys_of, plus, step, subsets, zero,
)
from tests.helpers import ANYTHING, TILL, StrictTest

ALL = (("ann", "put"), ("ann", "take"), ("bob", "take"))


def steps_from(store, state, hand, keys, done):
    """The deeds and the sums that a hand can do next."""
    return [(deed, plus(done, step(store, (own, deed)))) for own, deed in keys_of(store)
            if own == hand and (own, deed) in keys and good(store, plus(state, done, step(store, (own, deed))))]


def sums_by_hand(store, state, hand, keys):
    found = {zero(store)}
    while True:
        more = found | {one for done in found for _, one in steps_from(store, state, hand, keys, done)}
        if more == found:
            return tuple(sorted(found))
        found = more


def goes_by_hand(store, state, keys):
    states = set(goods(store))
    rows = [sums_by_hand(store, state, hand, keys) for hand in hands_of(store)]
    return all(plus(state, *choice) in states for choice in product(*rows))


def fewest_harm(store, state, keys):
    """The fewest deeds of all hands together behind which the whole is not good, or None."""
    many, latest = 0, {tuple(zero(store) for _ in store[2])}
    seen = set(latest)
    while latest:
        if any(not good(store, plus(state, *sums)) for sums in latest):
            return many
        many += 1
        latest = {(*sums[:at], one, *sums[at + 1:]) for sums in latest for at, hand in enumerate(hands_of(store))
                  for _, one in steps_from(store, state, hand, keys, sums[at])} - seen
        seen |= latest
    return None


class ComesToTest(StrictTest):
    def test_example(self):
        self.assert_same(comes_to(TILL, (1,), "ann", ALL), ((-1,), (0,), (1,), (2,), (3,)))

    def test_against_all_sums(self):
        for store in STORES:
            for state in goods(store):
                for keys in subsets(keys_of(store)):
                    for hand in hands_of(store):
                        self.assert_same(comes_to(store, state, hand, keys), sums_by_hand(store, state, hand, keys))

    def test_keys_in_any_order_and_repeated(self):
        for keys in permutations(ALL):
            self.assert_same(comes_to(hand="bob", keys=keys + ALL, state=(2,), store=TILL), ((-2,), (-1,), (0,)))

    def test_no_key(self):
        for hand in "ann", "bob":
            self.assert_same(comes_to(TILL, (2,), hand, ()), ((0,),))
        self.assert_same(comes_to(IDLE, (2,), "bob", ()), ((0,),))

    def test_unknown_hands_come_first(self):
        for value in ANYTHING + ["put", "eve", ("ann", "put")]:
            for keys in (ALL, (), (value,), (("x", "y"), 5)):
                with self.assertRaises(UnknownHand) as caught:
                    comes_to(TILL, (2,), value, keys)
                self.assertIs(caught.exception.hand, value)


class UnknownDeedTest(StrictTest):
    def test_each_function(self):
        calls = [lambda keys: comes_to(TILL, (2,), "ann", keys), lambda keys: comes_to(TILL, (2,), "bob", keys),
                 lambda keys: may_go_apart(TILL, (2,), keys), lambda keys: shortest_harm(TILL, (2,), keys),
                 lambda keys: states_apart(TILL, keys), lambda keys: states_apart(NONE_GOOD, (("ann", "a"),) + keys[2:])]
        for value in ANYTHING + [("bob", "put"), "ann", ("ann",), ["ann", "put"]]:
            for call in calls:
                for keys in ((ALL[0], ALL[0], value), (ALL[0], ALL[2], value, ("x", "y"), ALL[1])):
                    with self.assertRaises(UnknownDeed) as caught:
                        call(keys)
                    self.assertIs(caught.exception.deed, value)


class WholeTest(StrictTest):
    def test_ordinary_runs(self):
        self.assert_same(whole(TILL, (1,), (("put", "put", "take"), ("take",))), (1,))
        self.assert_same(whole(TILL, (1,), (("take",), ("take",))), (-1,))
        self.assert_same(whole(runs=(("a", "c"), (), ("b", "b", "b")), state=(3, 3), store=GRID), (-6, 2))
        self.assert_same(whole(IDLE, (2,), ((), ())), (2,))
        state = (2,)
        self.assertIsNot(whole(IDLE, state, ((), ())), state)

    def test_in_any_order_of_the_hands(self):
        for runs in product([(), ("a",), ("a", "b"), ("c", "b", "c")], repeat=3):
            sums = [step(GRID, (hand, deed)) for hand, run in zip(hands_of(GRID), runs) for deed in run]
            for some in (sums, sums[::-1]):
                self.assert_same(whole(GRID, (2, 2), runs), plus((2, 2), *some))

    def test_unknown_deeds(self):
        for value in ANYTHING + ["x", ("ann", "put"), ["put"]]:
            for hand, runs in (("ann", ((value,), (7,))), ("ann", (("put", value, "x"), ("take", "x"))),
                               ("bob", (("put",), ("take", value, "x")))):
                with self.assertRaises(UnknownDeed) as caught:
                    whole(TILL, (2,), runs)
                self.assertIs(type(caught.exception.deed), tuple)
                self.assertEqual(len(caught.exception.deed), 2)
                self.assert_same(caught.exception.deed[0], hand)
                self.assertIs(caught.exception.deed[1], value)
        # What is a deed of another hand is none of this one.
        self.assert_fails(UnknownDeed(("bob", "put")), whole, TILL, (2,), ((), ("put",)))


class MayGoApartTest(StrictTest):
    def test_examples(self):
        self.assert_same([may_go_apart(TILL, (2,), ALL[::2]), may_go_apart(TILL, (2,), ALL)], [True, False])
        self.assert_same(states_apart(TILL, ALL), ((0,),))
        self.assert_same(fewest_asked_at(TILL, (0,)), ((),))

    def test_against_all_sums(self):
        for store in STORES:
            for keys in subsets(keys_of(store)):
                due = []
                for state in goods(store):
                    due += [state] if goes_by_hand(store, state, keys) else []
                    self.assert_same(may_go_apart(store, state, keys), state in due, (store, state, keys))
                self.assert_same(states_apart(store, keys), tuple(due))

    def test_if_and_only_if_the_family_is_safe(self):
        for store in STORES:
            keys = tuple(keys_of(store))
            for state in goods(store):
                family = tuple(comes_to(store, state, hand, keys) for hand in hands_of(store))
                self.assert_same(may_go_apart(store, state, keys), is_safe(store, state, family))

    def test_the_greatest_store(self):
        keys = tuple(keys_of(GRID))
        for some in ((), keys, keys[:3], keys[3:], keys[::2], keys[::3], (keys[1], keys[3], keys[6])):
            due = tuple(state for state in goods(GRID) if goes_by_hand(GRID, state, some))
            self.assert_same(states_apart(keys=some[::-1] + some, store=GRID), due)
            for state in goods(GRID)[::4]:
                self.assert_same(may_go_apart(keys=some, state=state, store=GRID), state in due)

    def test_stores_with_few_good_states(self):
        self.assert_same(states_apart(NONE_GOOD, (("ann", "a"),)), ())
        self.assert_same(states_apart(ONE_GOOD, tuple(keys_of(ONE_GOOD))), ((2,),))
        self.assert_same(states_apart(IDLE, ()), ((0,), (1,), (2,), (3,)))

    def test_free_keys_go_apart_from_each_good_state(self):
        for store in STORES:
            for keys in subsets(keys_of(store)):
                free = any(set(keys) <= set(some) for some in free_sets(store))
                self.assert_same(states_apart(store, keys) == tuple(goods(store)), free or not goods(store))

    def test_what_goes_apart_does_with_fewer_keys(self):
        for store in STORES:
            for keys in subsets(keys_of(store)):
                for left in range(len(keys)):
                    fewer = states_apart(store, keys[:left] + keys[left + 1:])
                    self.assertLessEqual(set(states_apart(store, keys)), set(fewer))


class FewestAskedAtTest(StrictTest):
    def check(self, store, state):
        keys = keys_of(store)
        rows = [some for some in subsets(keys) if goes_by_hand(store, state, set(keys) - set(some))]
        fewest = min(map(len, rows))
        self.assert_same(fewest_asked_at(store, state), tuple(sorted(some for some in rows if len(some) == fewest)))
        return fewest

    def test_against_all_sets(self):
        numbers = {self.check(store, state) for store in STORES for state in goods(store)}
        self.assertLessEqual({0, 1, 2}, numbers)

    def test_the_greatest_store(self):
        self.check(GRID, (2, 3))
        self.assert_same(fewest_asked_at(state=(0, 0), store=GRID), fewest_asked_at(GRID, (0, 0)))

    def test_no_deed(self):
        self.assert_same(fewest_asked_at(IDLE, (0,)), ((),))


class ShortestHarmTest(StrictTest):
    def test_example(self):
        self.assert_same(shortest_harm(TILL, (1,), ALL), (("take",), ("take",)))

    def check(self, store, state, keys):
        harm = shortest_harm(store, state, keys)
        fewest = fewest_harm(store, state, keys)
        if fewest is None:
            self.assert_same(harm, None)
            return 0
        self.assertIs(type(harm), tuple)
        self.assertEqual(len(harm), len(store[2]))
        sums = []
        for hand, run in zip(hands_of(store), harm):
            self.assertIs(type(run), tuple)
            done = zero(store)
            for deed in run:
                self.assertIs(type(deed), str)
                done = dict(steps_from(store, state, hand, keys, done))[deed]
            sums.append(done)
        self.assertFalse(good(store, plus(state, *sums)))
        self.assertEqual(sum(map(len, harm)), fewest)
        self.assertEqual(whole(store, state, harm), plus(state, *sums))
        return fewest

    def test_against_a_look_at_all_runs(self):
        numbers = {self.check(store, state, keys) for store in STORES for state in goods(store)
                   for keys in subsets(keys_of(store))}
        self.assertLessEqual({0, 2, 3, 4}, numbers)

    def test_the_greatest_store(self):
        keys = tuple(keys_of(GRID))
        for state in goods(GRID)[::5]:
            for some in (keys, keys[:4] + keys[7:], keys[::2]):
                self.check(GRID, state, some)

    def test_there_is_one_if_and_only_if_they_may_not(self):
        for store in ALL_STORES:
            keys = tuple(keys_of(store))
            for state in goods(store):
                self.assert_same(shortest_harm(keys=keys * 2, state=state, store=store) is None,
                                 may_go_apart(store, state, keys))


if __name__ == "__main__":
    unittest.main()
