"""DOC.md [5], [7] (U7), [9], [43], [46], [47]: lists of deeds, and the fewest meetings that they need."""

import random
import unittest
from itertools import combinations, product

from ownrights.errors import UnknownDeed
from ownrights.lists import can_do, fewest_meetings, passed
from tests.direct import (
    ALONE, GAPS, GRID, IDLE, NONE_GOOD, ONE_GOOD, QUIET, STORES, good, goods, hands_of, keys_of, plus, safe, starts_of,
    step, zero,
)
from tests.helpers import ANYTHING, BOTH, SHOP, START, TILL, StrictTest

PUT, TAKE, BOB = ("ann", "put"), ("ann", "take"), ("bob", "take")
SOME = (PUT, BOB, TAKE)


def passed_by_hand(store, deeds):
    family = []
    for hand in hands_of(store):
        own = [step(store, key) for key in deeds if key[0] == hand]
        family.append(tuple(sorted({plus(zero(store), *own[:many]) for many in range(len(own) + 1)})))
    return tuple(family)


def state_behind(store, start, deeds):
    return plus(start, *[step(store, key) for key in deeds])


def pieces(start, store, deeds, cuts):
    """The pieces between the cuts, each with the state at which it begins."""
    bounds = [0, *cuts, len(deeds)]
    return [(state_behind(store, start, deeds[:begin]), deeds[begin:end]) for begin, end in zip(bounds, bounds[1:])]


def can_by_hand(store, start, deeds):
    return safe(store, start, passed_by_hand(store, deeds))


def all_fewest(store, start, deeds):
    """All sets of cuts with the fewest elements such that each piece can be done unasked."""
    for many in range(len(deeds)):
        found = [cuts for cuts in combinations(range(1, len(deeds)), many)
                 if all(can_by_hand(store, *piece) for piece in pieces(start, store, deeds, cuts))]
        if found:
            return found
    return [()]


def fewest_by_hand(store, start, deeds):
    if not all(good(store, state_behind(store, start, deeds[:many])) for many in range(len(deeds) + 1)):
        return None
    return tuple(max(column) for column in zip(*all_fewest(store, start, deeds)))


def lists(seed, many, longest=8):
    """Lists of deeds with starts: as chance has it, or such that all states are good."""
    chance = random.Random(seed)
    for store in [*STORES, GRID]:
        keys = keys_of(store)
        for _ in range(many if keys else 1):
            start = chance.choice([*goods(store), *starts_of(store)[:2]])
            deeds = []
            for _ in range(chance.randint(0, longest) if keys else 0):
                fit = [key for key in keys if good(store, state_behind(store, start, [*deeds, key]))]
                deeds.append(chance.choice(fit if fit and chance.random() < 0.97 else keys))
            yield store, start, tuple(deeds)


class PassedTest(StrictTest):
    def test_examples(self):
        self.assert_same([passed(TILL, SOME), can_do(TILL, START, SOME), fewest_meetings(TILL, (0,), SOME[:2]),
                          fewest_meetings(TILL, (0,), SOME)],
                         [(((0,), (1,)), ((-1,), (0,))), True, (1,), None])

    def test_against_the_first_deeds_of_each_hand(self):
        found = set()
        for store, start, deeds in lists(46, 30):
            self.assert_same(passed(store, deeds), passed_by_hand(store, deeds), (store, deeds))
            found.add(can_by_hand(store, start, deeds))
            self.assert_same(can_do(store, start, deeds), can_by_hand(store, start, deeds))
        self.assertEqual(found, {True, False})

    def test_the_order_among_different_hands_does_not_matter(self):
        chance = random.Random(47)
        for store, start, deeds in lists(47, 10):
            others = sorted(range(len(deeds)), key=lambda at: chance.random())
            # Each hand keeps its own order.
            rows = {hand: [key for key in deeds if key[0] == hand] for hand in hands_of(store)}
            mixed = tuple(rows[deeds[at][0]].pop(0) for at in others)
            self.assert_same(passed(store, mixed), passed(store, deeds))
            self.assert_same(can_do(store, start, mixed), can_do(store, start, deeds))

    def test_small_ones(self):
        self.assert_same(passed(deeds=(), store=TILL), (((0,),), ((0,),)))
        self.assert_same(passed(TILL, (PUT, TAKE, TAKE, PUT)), (((-1,), (0,), (1,)), ((0,),)))
        self.assert_same(passed(IDLE, ()), (((0,),), ((0,),)))
        self.assert_same(passed(QUIET, (("ann", "wait"),) * 3), (((0, 0),), ((0, 0),)))
        self.assert_same(passed(SHOP, (("eve", "rob"), ("ann", "buy"), ("eve", "rob"))),
                         (((-1, 2), (0, 0)), ((0, 0),), ((0, -24), (0, -12), (0, 0))))
        self.assert_same([can_do(TILL, (x,), ()) for x in (-1, 0, 4, 5)], [False, True, True, False])
        self.assert_same(can_do(deeds=SOME, start=(0,), store=TILL), False)
        self.assert_same(can_do(TILL, (4,), (PUT, BOB)), False)

    def test_a_family_that_lets_the_list_be_done(self):
        # A list can be done by some safe family if and only if the sums passed through are safe.
        for store, start, deeds in lists(48, 6, longest=3):
            if len(store[0]) > 1 or len(store[2]) > 2:
                continue
            due = passed_by_hand(store, deeds)
            pool = [(x,) for x in range(-3, 4)]
            wider = [{one} | set(right) for right in due for one in pool]
            self.assertTrue(not safe(store, start, due) or can_do(store, start, deeds))
            for rights in wider:
                if safe(store, start, (tuple(rights), *due[1:])) and set(due[0]) <= rights:
                    self.assertTrue(can_do(store, start, deeds))

    def test_unknown_deeds(self):
        for value in ANYTHING + ["ann", ("bob", "put"), ("ann", "Put"), ("ann", "put", 1), ["ann", "put"]]:
            for start in (START, (9,)):
                for deeds in ((value,), (PUT, value, 5), (BOB, BOB, BOB, value, value)):
                    for call in (lambda: passed(TILL, deeds), lambda: can_do(TILL, start, deeds),
                                 lambda: fewest_meetings(TILL, start, deeds)):
                        with self.assertRaises(UnknownDeed) as caught:
                            call()
                        self.assertIs(caught.exception.deed, value)


class FewestMeetingsTest(StrictTest):
    def test_against_all_sets_of_cuts(self):
        found = []
        for store, start, deeds in lists(49, 25):
            found.append(fewest_by_hand(store, start, deeds))
            self.assert_same(fewest_meetings(store, start, deeds), found[-1], (store, start, deeds))
        self.assertGreater(found.count(None), 15)
        self.assertGreater(found.count(()), 30)
        self.assertLessEqual({1, 2, 3}, {len(cuts) for cuts in found if cuts})

    def test_all_lists_of_the_till(self):
        several = 0
        for many in range(6):
            for deeds in product((PUT, TAKE, BOB), repeat=many):
                for x in range(5):
                    due = fewest_by_hand(TILL, (x,), deeds)
                    self.assert_same(fewest_meetings(TILL, (x,), deeds), due)
                    several += due is not None and len(all_fewest(TILL, (x,), deeds)) > 1
        # Cuts that can stand at several places stand as late as possible: all of them at once.
        self.assertGreater(several, 50)

    def test_lists_of_eight_deeds(self):
        deeds = (PUT, PUT, BOB, BOB, PUT, PUT, BOB, BOB)
        self.assert_same(fewest_meetings(TILL, (0,), deeds), (2, 6))
        self.assert_same(fewest_meetings(TILL, (0,), (PUT, BOB) * 4), (1, 3, 5, 7))
        self.assert_same(fewest_meetings(TILL, (0,), (PUT, BOB) * 4), fewest_by_hand(TILL, (0,), (PUT, BOB) * 4))
        self.assert_same(fewest_meetings(TILL, (2,), deeds), (4,))
        self.assert_same(fewest_meetings(TILL, (3,), deeds), None)
        for start in ((0,), (1,), (2,)):
            self.assert_same(fewest_meetings(TILL, start, deeds), fewest_by_hand(TILL, start, deeds))

    def test_the_empty_list(self):
        for x in range(-2, 7):
            self.assert_same(fewest_meetings(TILL, (x,), ()), () if 0 <= x <= 4 else None)
        self.assert_same(fewest_meetings(deeds=(), start=(0,), store=NONE_GOOD), None)

    def test_states_on_the_way(self):
        # None, be it the start, a state between, or the last one.
        self.assert_same([fewest_meetings(TILL, (5,), (BOB,)), fewest_meetings(TILL, (4,), (PUT, BOB)),
                          fewest_meetings(TILL, (4,), (BOB, PUT)), fewest_meetings(TILL, (4,), (BOB, PUT, PUT))],
                         [None, None, (1,), None])
        self.assert_same(fewest_meetings(GAPS, (3,), (("ann", "a"), ("bob", "a"))), None)
        self.assert_same(fewest_meetings(GAPS, (3,), (("ann", "b"), ("bob", "a"))), None)
        self.assert_same(fewest_meetings(GAPS, (6,), (("ann", "b"), ("bob", "b"))), None)
        self.assert_same(fewest_meetings(GAPS, (6,), (("ann", "b"), ("bob", "a"), ("bob", "b"))), None)

    def test_one_hand(self):
        # A hand alone passes through the states of the list only.
        for store, start, deeds in lists(50, 8):
            own = tuple(key for key in deeds if key[0] == hands_of(store)[0])
            cuts = fewest_meetings(store, start, own)
            self.assertIn(cuts, (None, ()))
            self.assert_same(cuts == (), can_do(store, start, own))
        self.assert_same(fewest_meetings(ALONE, (0,), (("ann", "c"), ("ann", "a"))), ())
        self.assert_same(fewest_meetings(ALONE, (0,), (("ann", "a"), ("ann", "a"))), None)
        self.assert_same(fewest_meetings(ONE_GOOD, (2,), (("ann", "b"),) * 8), ())
        self.assert_same(BOTH[0] in passed(TILL, (PUT, TAKE, TAKE)), True)


if __name__ == "__main__":
    unittest.main()
