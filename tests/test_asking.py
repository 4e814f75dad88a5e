"""DOC.md [6], [7] (U3, U4), [9], [49], [50], [51]: who has to be asked for a deed, and groups papers."""

import random
import unittest
from itertools import combinations, product

from ownrights.asking import group_rights, least_groups
from ownrights.askpapers import groups_paper
from ownrights.errors import UnknownDeed, UnknownHand
from ownrights.families import grown, is_greatest, is_safe
from tests import direct
from tests.direct import (
    ALONE, GRID, IDLE, QUIET, RULED, STORES, THREE, all_sums, good, goods, hands_of, keys_of, minus, plus, rest,
    safe_families, step,
)
from tests.helpers import ANYTHING, BOTH, START, TILL, StrictTest

PUT, TAKE, BOB = ("ann", "put"), ("ann", "take"), ("bob", "take")


def cases(many):
    """Stores with starts, safe families and sums of their rights."""
    chance = random.Random(49)
    for store in [*STORES, GRID]:
        for start, family in safe_families(store, chance, many, tries=6):
            for _ in range(2):
                yield store, start, family, tuple(chance.choice(right) for right in family)
            if chance.random() < 0.3:
                family = grown(store, start, family, hands_of(store)[-1])
                yield store, start, family, tuple(chance.choice(right) for right in family)


def group_of(store, group, values):
    return [value for hand, value in zip(hands_of(store), values) if hand in group]


def suffices_by_hand(store, start, family, sums, key, group):
    """Look at all surroundings of the rights of the group."""
    if key[0] not in group:
        return False
    behind = plus(*group_of(store, group, sums), step(store, key))
    if list(group) == hands_of(store):
        return good(store, plus(start, behind))
    around = rest(all_sums(group_of(store, group, family)), goods(store))
    return all(good(store, plus(c, behind)) for c in around)


def groups_in(store):
    return [group for many in range(1, len(store[2]) + 1) for group in combinations(hands_of(store), many)]


def least_by_hand(store, start, family, sums, key):
    found = [group for group in groups_in(store) if suffices_by_hand(store, start, family, sums, key, group)]
    return tuple(sorted(group for group in found if not any(set(other) < set(group) for other in found)))


def rights_by_hand(store, start, family, sums, group, key=None):
    if key is not None and not suffices_by_hand(store, start, family, sums, key, group):
        return None
    old = group_of(store, group, family)
    target = direct.worth(all_sums(old), goods(store))
    if list(group) == hands_of(store):
        target = [minus(state, start) for state in goods(store)]
    rights = old if key is None else [
        tuple(sorted({done, plus(done, step(store, key))})) if hand == key[0] else (done,)
        for hand, done in zip(group, group_of(store, group, sums))]
    for at in range(len(rights)):
        rights[at] = rest(all_sums([*rights[:at], ((0,) * len(store[0]),), *rights[at + 1:]]), target)
    return tuple(rights)


class LeastGroupsTest(StrictTest):
    def test_example(self):
        self.assert_same(least_groups(TILL, START, BOTH, ((1,), (0,)), PUT), (("ann", "bob"),))

    def test_against_a_look_at_all_groups(self):
        found = []
        for case in cases(8):
            for key in keys_of(case[0]):
                found.append(least_by_hand(*case, key))
                self.assert_same(least_groups(*case, key), found[-1], (case, key))
        self.assertGreater(len(set(found)), 9)
        self.assertTrue([groups for groups in found if len(groups) == 2])

    def test_small_ones(self):
        self.assert_same(least_groups(key=PUT, sums=((0,), (0,)), family=BOTH, start=START, store=TILL), (("ann",),))
        self.assert_same(least_groups(TILL, START, BOTH, ((0,), (-1,)), BOB), (("ann", "bob"),))
        # Only together they see that the whole stays good.
        self.assert_same(least_groups(TILL, START, (((2,),), ((-3,), (0,))), ((2,), (-3,)), BOB), (("ann", "bob"),))
        self.assert_same(least_groups(TILL, (0,), (((0,),), ((0,),)), ((0,), (0,)), TAKE), ())

    def test_within_the_worth_but_not_within_the_right(self):
        # Whoever may be at -1 and 1 harms nobody at 0.
        still = (((-1,), (1,)), ((0,),))
        self.assert_same([least_groups(TILL, START, still, ((-1,), (0,)), PUT), least_groups(TILL, START, still, ((1,), (0,)), PUT)],
                         [(("ann",),), (("ann", "bob"),)])

    def test_one_hand(self):
        right = (((-2,), (0,)),)
        self.assert_same([least_groups(ALONE, (2,), right, ((0,),), ("ann", deed)) for deed in "abc"],
                         [(("ann",),), (), ()])
        self.assert_same([least_groups(ALONE, (2,), right, ((-2,),), ("ann", deed)) for deed in "abc"],
                         [(), (), (("ann",),)])

    def test_a_deed_that_changes_nothing_needs_no_other(self):
        for store, start, family, sums in cases(3):
            if store in (QUIET, RULED):
                key = ("ann", "wait" if store == QUIET else "c")
                self.assert_same(least_groups(store, start, family, sums, key), (("ann",),))

    def test_a_greater_group_suffices_too(self):
        for case in cases(3):
            for key in keys_of(case[0]):
                for one, other in product(groups_in(case[0]), repeat=2):
                    if set(one) <= set(other) and suffices_by_hand(*case, key, one):
                        self.assertTrue(suffices_by_hand(*case, key, other))


class UnknownTest(StrictTest):
    def test_unknown_deeds(self):
        for value in ANYTHING + [("bob", "put"), "ann", ("ann",), ["ann", "put"]]:
            calls = [lambda: least_groups(TILL, START, BOTH, ((0,), (0,)), value),
                     lambda: groups_paper(TILL, START, BOTH, ((0,), (0,)), value)]
            if value is not None:
                calls.append(lambda: group_rights(TILL, START, BOTH, ((0,), (0,)), ("ann",), key=value))
                calls.append(lambda: group_rights(TILL, START, BOTH, ((0,), (0,)), ("ann", "bob"), key=value))
            for call in calls:
                with self.assertRaises(UnknownDeed) as caught:
                    call()
                self.assertIs(caught.exception.deed, value)

    def test_unknown_hands_come_first(self):
        for value in ANYTHING + ["put", "eve", PUT]:
            for group in ((value,), ("ann", value, 5), (value, "bob"), ("ann", "bob", value)):
                for key in (None, PUT, 5, value):
                    with self.assertRaises(UnknownHand) as caught:
                        group_rights(TILL, START, BOTH, ((0,), (0,)), group, key=key)
                    self.assertIs(caught.exception.hand, value)


class GroupRightsTest(StrictTest):
    def test_example(self):
        self.assert_same(group_rights(TILL, START, BOTH, ((1,), (0,)), ("ann", "bob"), key=PUT),
                         (((-2,), (-1,), (0,), (1,), (2,)), ((0,),)))

    def test_against_the_definition(self):
        found = []
        for case in cases(5):
            for group in groups_in(case[0]):
                for key in (None, *keys_of(case[0])):
                    found.append(rights_by_hand(*case, group, key))
                    self.assert_same(group_rights(*case, group, key=key), found[-1])
        self.assertGreater(found.count(None), 100)
        self.assertGreater(len(set(found)), 100)

    def test_without_a_key(self):
        self.assert_same(group_rights(TILL, START, BOTH, ((0,), (0,)), ("ann",)), (((-1,), (0,), (1,)),))
        self.assert_same(group_rights(key=None, group=("ann", "bob"), sums=((0,), (0,)), family=BOTH, start=START, store=TILL),
                         (((-1,), (0,), (1,), (2,)), ((-1,), (0,))))

    def test_a_group_that_does_not_suffice(self):
        self.assert_same([group_rights(TILL, START, BOTH, ((1,), (0,)), group, key=PUT) for group in (("ann",), ("bob",))],
                         [None, None])
        self.assert_same(group_rights(TILL, START, BOTH, ((0,), (0,)), ("bob",), key=PUT), None)
        self.assert_same(group_rights(TILL, (0,), (((0,),), ((0,),)), ((0,), (0,)), ("ann", "bob"), key=TAKE), None)

    def test_a_deed_within_the_right(self):
        self.assert_same(group_rights(TILL, START, BOTH, ((0,), (0,)), ("ann",), key=PUT), (((-1,), (0,), (1,)),))
        still = (((0, 0),), ((0, 0),))
        self.assert_same(group_rights(QUIET, (1, 0), still, still[0] * 2, ("ann",), key=("ann", "wait")), (((0, 0),),))

    def test_what_follows(self):
        for store, start, family, sums in cases(5):
            hands = hands_of(store)
            for group in groups_in(store):
                for key in (None, *keys_of(store)):
                    rights = group_rights(store, start, family, sums, group, key=key)
                    if rights is None:
                        continue
                    told = dict(zip(group, rights))
                    after = tuple(told.get(hand, right) for hand, right in zip(hands, family))
                    self.assert_same(is_safe(store, start, after), True)
                    for hand, done, right in zip(hands, sums, after):
                        self.assertIn(done, right)
                        if key is not None and hand == key[0]:
                            self.assertIn(plus(done, step(store, key)), right)
                    if list(group) == hands:
                        self.assert_same(is_greatest(store, start, after), True)


class GroupsPaperTest(StrictTest):
    def check(self, store, start, family, sums, key):
        groups, bars = paper = groups_paper(store, start, family, sums, key)
        self.assertIs(type(paper), tuple)
        self.assert_same(groups, least_by_hand(store, start, family, sums, key))
        due = [group for group in groups_in(store) if key[0] in group and
               not any(set(other) <= set(group) for other in groups)]
        self.assert_same([group for group, _ in bars], sorted(due))
        for row in bars:
            self.assertIs(type(row), tuple)
            group, c = row
            behind = plus(*group_of(store, group, sums), step(store, key))
            if list(group) == hands_of(store):
                self.assert_same(c, ())
                self.assertFalse(good(store, plus(start, behind)))
            else:
                self.assertIs(type(c), tuple)
                self.assertTrue(all(good(store, plus(c, one)) for one in all_sums(group_of(store, group, family))))
                self.assertFalse(good(store, plus(c, behind)))
        return len(groups), len(bars)

    def test_ordinary_families(self):
        found = {self.check(*case, key) for case in cases(8) for key in keys_of(case[0])}
        # Of three hands a group of one, two or three, two groups of two, or none.
        self.assertLessEqual({(1, 0), (1, 1), (1, 2), (1, 3), (2, 1), (0, 1), (0, 2), (0, 4)}, found)

    def test_small_ones(self):
        self.assert_same(groups_paper(TILL, START, BOTH, ((1,), (0,)), PUT), ((("ann", "bob"),), ((("ann",), (3,)),)))
        self.assert_same(groups_paper(key=PUT, sums=((0,), (0,)), family=BOTH, start=START, store=TILL), ((("ann",),), ()))
        self.assert_same(groups_paper(TILL, (0,), (((0,),), ((0,),)), ((0,), (0,)), TAKE),
                         ((), ((("ann",), (0,)), (("ann", "bob"), ()))))
        self.assert_same(groups_paper(ALONE, (2,), (((0,),),), ((0,),), ("ann", "b")), ((), ((("ann",), ()),)))

    def test_three_hands(self):
        rights = (((0,),), ((0,),), ((0,),))
        paper = groups_paper(THREE, (3,), rights, ((0,),) * 3, ("eve", "a"))
        self.assert_same((paper[0], [group for group, _ in paper[1]]),
                         ((), [("ann", "bob", "eve"), ("ann", "eve"), ("bob", "eve"), ("eve",)]))
        self.assert_same(paper[1][0], (("ann", "bob", "eve"), ()))

    def test_a_hand_without_deeds(self):
        self.assert_same(keys_of(IDLE), [])
        for group in groups_in(IDLE):
            self.assert_same(group_rights(IDLE, (1,), (((0,),), ((0,), (1,))), ((0,), (1,)), group),
                             rights_by_hand(IDLE, (1,), (((0,),), ((0,), (1,))), ((0,), (1,)), group))


if __name__ == "__main__":
    unittest.main()
