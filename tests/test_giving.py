"""DOC.md [6], [7] (U3, U8), [9], [43], [52], [53]: what hands can come to, and what they may give."""

import random
import unittest
from itertools import product

from ownrights.giftpapers import gift_paper
from ownrights.giving import given_up, greatest_gift, may_give, reach
from ownrights.errors import UnknownHand
from tests import direct
from tests.direct import (
    ALONE, GRID, IDLE, QUIET, STORES, all_sums, goods, grown_family, hands_of, keys_of, minus, plus, rest, safe,
    safe_families, step, subsets, zero,
)
from tests.helpers import ANYTHING, BOTH, START, TILL, StrictTest


def reach_by_hand(store, right, done, hand):
    """Go on step by step, until there are no new sums."""
    steps = [step(store, key) for key in keys_of(store) if key[0] == hand]
    found = {done} & set(right)
    while True:
        more = {plus(one, there) for one in found for there in steps} & set(right)
        if more <= found:
            return tuple(sorted(found))
        found |= more


def is_right(store, old, new, heir_old, heir_new):
    """Whether the sums of both new rights are in the worth of the sums of both old ones."""
    return set(all_sums((new, heir_new))) <= set(direct.worth(all_sums((old, heir_old)), goods(store)))


def may_by_hand(store, old, new, heir_old, heir_new):
    return set(new) <= set(old) and set(heir_old) <= set(heir_new) and is_right(store, old, new, heir_old, heir_new)


def gifts(seed, many, stores=(*STORES, GRID)):
    """Two rights of safe families, and a new one for each of them."""
    chance = random.Random(seed)
    for store in stores:
        pool = list(product(range(-2, 3), repeat=len(store[0])))
        for _, family in safe_families(store, chance, many, tries=8):
            if len(family) < 2:
                continue
            giver, heir = chance.sample(range(len(family)), 2)
            old, heir_old = family[giver], family[heir]
            new = tuple(sorted(chance.sample(old, chance.randint(1, len(old)))))
            fits = rest(new, direct.worth(all_sums((old, heir_old)), goods(store)))
            more = chance.sample(fits, chance.randint(0, len(fits))) + chance.sample(pool, chance.choice([0, 0, 1]))
            yield store, old, new, heir_old, tuple(sorted({*heir_old, *more}))


class ReachTest(StrictTest):
    def test_example(self):
        self.assert_same(reach(TILL, ((-1,), (0,), (2,)), (0,), "ann"), ((-1,), (0,)))

    def test_step_by_step(self):
        chance = random.Random(52)
        found = []
        for store in [*STORES, GRID]:
            pool = list(product(range(-2, 3), repeat=len(store[0])))
            for hand in hands_of(store):
                for _ in range(12):
                    right = tuple(sorted(chance.sample(pool, chance.randint(1, min(12, len(pool))))))
                    for done in {*right[:4], chance.choice(pool)}:
                        found.append(reach_by_hand(store, right, done, hand))
                        self.assert_same(reach(store, right, done, hand), found[-1], (store, right, done, hand))
        self.assertGreater(found.count(()), 50)
        self.assertGreater(len([sums for sums in found if len(sums) > 2]), 50)

    def test_small_ones(self):
        self.assert_same(reach(hand="bob", done=(0,), right=((-3,), (-2,), (-1,), (0,), (1,)), store=TILL),
                         ((-3,), (-2,), (-1,), (0,)))
        self.assert_same(reach(TILL, ((-1,), (1,)), (0,), "ann"), ())
        self.assert_same(reach(TILL, ((-1,), (1,)), (1,), "ann"), ((1,),))
        # A way out of the right and back into it is none.
        self.assert_same(reach(ALONE, ((0,), (1,), (3,), (4,)), (0,), "ann"), ((0,), (1,), (3,), (4,)))
        self.assert_same(reach(ALONE, ((0,), (3,), (4,)), (0,), "ann"), ((0,),))
        self.assert_same(reach(ALONE, ((0,), (3,), (4,)), (4,), "ann"), ((3,), (4,)))

    def test_a_hand_without_deeds_and_a_deed_that_changes_nothing(self):
        self.assert_same(reach(IDLE, ((0,), (1,)), (1,), "bob"), ((1,),))
        self.assert_same(reach(IDLE, ((0,), (1,)), (2,), "bob"), ())
        self.assert_same(reach(QUIET, ((0, 0), (5, 0)), (0, 0), "ann"), ((0, 0),))

    def test_unknown_hands(self):
        for value in ANYTHING + ["put", "eve"]:
            for right, done in ((((0,),), (0,)), (((0,),), (1,)), ((), (0,))):
                with self.assertRaises(UnknownHand) as caught:
                    reach(TILL, right, done, value)
                self.assertIs(caught.exception.hand, value)


class GivenUpTest(StrictTest):
    def test_small_ones(self):
        family = (((-2,), (0,), (1,), (3,)), ((-2,), (0,)))
        self.assert_same(given_up(TILL, family, ((0,), (0,))), (((0,), (1,)), ((0,),)))
        self.assert_same(given_up(sums=((3,), (-2,)), family=family, store=TILL), (((3,),), ((-2,),)))
        self.assert_same(given_up(TILL, BOTH, ((0,), (0,))), BOTH)

    def test_what_was_safe_stays_so(self):
        chance = random.Random(53)
        less = 0
        for store in [*STORES, GRID]:
            target = [minus(state, (0,) * len(store[0])) for state in goods(store)]
            for start, family in safe_families(store, chance, 10, tries=6):
                sums = tuple(chance.choice(right) for right in family)
                after = given_up(store, family, sums)
                self.assert_same(after, tuple(reach_by_hand(store, right, done, hand) for right, done, hand
                                              in zip(family, sums, hands_of(store))))
                self.assertTrue(safe(store, start, after))
                less += after != family
                for at in range(len(family)):
                    # The rests of the others are no lesser.
                    others = [(start,), *family[:at], *family[at + 1:]]
                    fewer = [(start,), *after[:at], *after[at + 1:]]
                    self.assertLessEqual(set(rest(all_sums(others), target)), set(rest(all_sums(fewer), target)))
        self.assertGreater(less, 20)


class GiftTest(StrictTest):
    def test_examples(self):
        self.assert_same(greatest_gift(TILL, BOTH[0], ((0,), (1,)), BOTH[1]), ((-2,), (-1,), (0,)))
        self.assert_same(may_give(TILL, BOTH[0], ((0,), (1,)), BOTH[1], ((-1,), (0,), (1,))), False)

    def test_all_gifts_of_the_till(self):
        wider = [tuple(sorted({*BOTH[1], *more})) for more in subsets([(-4,), (-3,), (-2,), (1,), (2,)])]
        found = []
        for new in subsets(BOTH[0])[1:]:
            for heir_new in (*wider, ((-1,),), ((0,), (1,))):
                found.append(may_by_hand(TILL, BOTH[0], new, BOTH[1], heir_new))
                self.assert_same(may_give(TILL, BOTH[0], new, BOTH[1], heir_new), found[-1])
        self.assertGreater(found.count(True), 9)
        self.assertGreater(found.count(False), 9)

    def test_against_the_worth(self):
        found = []
        for gift in gifts(54, 25):
            found.append(may_by_hand(*gift))
            self.assert_same(may_give(*gift), found[-1], gift)
            self.assert_same(gift_paper(*gift) is None, found[-1], gift)
        self.assertGreater(found.count(True), 30)
        self.assertGreater(found.count(False), 20)

    def test_rights_that_are_greater_or_neither(self):
        # The gift itself is right, but one of the rights is not within the other one.
        self.assert_same(may_give(TILL, ((0,),), ((0,), (1,)), ((-1,), (0,)), ((-1,), (0,))), False)
        self.assert_same(may_give(TILL, ((-1,), (1,)), ((0,),), ((0,),), ((0,),)), False)
        self.assert_same(is_right(TILL, ((-1,), (1,)), ((0,),), ((0,),), ((0,),)), True)
        self.assert_same(may_give(TILL, ((0,), (1,)), ((0,),), ((-1,), (0,)), ((0,),)), False)
        self.assert_same(may_give(TILL, ((0,), (1,)), ((0,),), ((-1,), (0,)), ((0,), (1,))), False)
        self.assert_same(may_give(heir_new=((-1,), (0,)), heir_old=((0,),), new=((0,),), old=((-1,), (0,)), store=TILL), True)
        # Nothing given up and nothing got, and everything kept alike.
        for rights in (BOTH, BOTH[::-1]):
            self.assert_same(may_give(TILL, rights[0], rights[0], rights[1], rights[1]), True)
            for new in subsets(rights[0])[1:]:
                self.assert_same(may_give(TILL, rights[0], new, rights[1], rights[1]), True)

    def test_the_greatest_gift(self):
        # All rights that the heir may get lie within the greatest, and each that lies between is right.
        for store, old, new, heir_old, _ in gifts(55, 12):
            due = rest(new, direct.worth(all_sums((old, heir_old)), goods(store)))
            self.assert_same(greatest_gift(store, old, new, heir_old), due)
            self.assertLessEqual(set(heir_old), set(due))
            self.assert_same(may_give(store, old, new, heir_old, due), True)
            for one in {plus(one, there) for one in due for there in product((-1, 0, 1), repeat=len(store[0]))} - set(due):
                self.assert_same(may_give(store, old, new, heir_old, tuple(sorted({*heir_old, one}))), False)

    def test_no_greatest_gift(self):
        for new in (((2,),), ((0,), (2,)), ((-1,), (0,), (1,), (2,))):
            self.assert_same(greatest_gift(TILL, BOTH[0], new, BOTH[1]), None)
        self.assert_same(greatest_gift(heir_old=BOTH[1], new=BOTH[0], old=BOTH[0], store=TILL), BOTH[1])

    def test_what_follows(self):
        # Whatever the start is, a right gift keeps a safe family safe: before it is taken, and behind it.
        chance = random.Random(56)
        for store in [*STORES, GRID]:
            for start, family in safe_families(store, chance, 10, tries=8):
                if len(family) < 2:
                    continue
                giver, heir = chance.sample(range(len(family)), 2)
                new = tuple(sorted(chance.sample(family[giver], chance.randint(1, len(family[giver])))))
                rights = list(family)
                rights[giver] = new
                self.assertTrue(safe(store, start, rights))
                rights[heir] = greatest_gift(store, family[giver], new, family[heir])
                self.assertTrue(safe(store, start, rights))

    def test_rights_that_were_returned(self):
        for store in (GRID, TILL):
            family = grown_family(store, goods(store)[0], ((zero(store),),) * len(store[2]))
            wide = greatest_gift(store, family[0], family[0][:1], family[1])
            self.assert_same(may_give(store, family[0], family[0][:1], family[1], wide), True)
            self.assertIn(zero(store), reach(store, wide, zero(store), hands_of(store)[1]))
        self.assert_same(START in goods(TILL), True)


if __name__ == "__main__":
    unittest.main()
