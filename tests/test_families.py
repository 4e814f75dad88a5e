"""DOC.md [5], [7] (U1, U2), [9], [33], [34], [35], [38]: families of rights."""

import random
import unittest
from itertools import permutations, product

from ownrights.errors import InvalidFamily, UnknownHand
from ownrights.families import grown, is_greatest, is_safe, rest_of, whole_states
from ownrights.pairing import greatest_pairs
from tests.direct import (
    ALONE, GRID, IDLE, NO_RIGHTS, NONE_GOOD, STORES, all_sums, family_cases, goods, hands_of, minus, plus, safe,
    safe_families, zero,
)
from tests.helpers import ANYTHING, BOTH, START, TILL, StrictTest

WIDE = (((-1,), (0,), (1,), (2,)), ((-1,), (0,)))


def rest_by_hand(store, start, family, at):
    """Try each sum that leads from start and some sums of the others to a good state."""
    others = all_sums([*family[:at], (zero(store),), *family[at + 1:]])
    found = {minus(minus(state, start), one) for state in goods(store) for one in others}
    return tuple(sorted(x for x in found if safe(store, start, [*family[:at], (x,), *family[at + 1:]])))


def grown_by_hand(store, start, family, hands):
    rights = list(family)
    for hand in [*hands, *[hand for hand in hands_of(store) if hand not in hands]]:
        at = hands_of(store).index(hand)
        rights[at] = rest_by_hand(store, start, rights, at)
    return tuple(rights)


class FamiliesTest(StrictTest):
    def test_is_safe(self):
        found = []
        for store, start, family in family_cases(8, 12):
            found.append(is_safe(store, start, family))
            self.assert_same(found[-1], safe(store, start, family))
        self.assertGreater(found.count(True), 100)
        self.assertGreater(found.count(False), 100)

    def test_whole_states(self):
        self.assert_same(whole_states(TILL, START, BOTH), ((0,), (1,), (2,), (3,)))
        self.assert_same(whole_states(family=BOTH, start=(-7,), store=TILL), ((-9,), (-8,), (-7,), (-6,)))
        for store, start, family in family_cases(8, 4):
            due = tuple(sorted({plus(start, *choice) for choice in product(*family)}))
            self.assert_same(whole_states(store, start, family), due)

    def test_rest_of(self):
        self.assert_same(rest_of(TILL, START, BOTH, "ann"), ((-1,), (0,), (1,), (2,)))
        self.assert_same(rest_of(hand="bob", family=BOTH, start=START, store=TILL), ((-1,), (0,), (1,)))
        found = set()
        for store, start, family in family_cases(8, 6):
            for at, hand in enumerate(hands_of(store)):
                due = rest_by_hand(store, start, family, at)
                found.add(due)
                self.assert_same(rest_of(store, start, family, hand), due)
        self.assertIn((), found)
        self.assertGreater(len(found), 99)

    def test_rest_of_one_hand(self):
        self.assert_same(rest_of(ALONE, (2,), (((9,),),), "ann"), ((-2,), (0,), (1,)))
        self.assert_same(rest_of(NONE_GOOD, (2,), (((0,),), ((0,),)), "ann"), ())

    def test_is_greatest(self):
        self.assert_same([is_greatest(TILL, START, BOTH), is_greatest(family=WIDE, start=START, store=TILL)], [False, True])
        found = []
        for store, start, family in family_cases(8, 8):
            greatest = safe(store, start, family) and all(
                rest_by_hand(store, start, family, at) == right for at, right in enumerate(family))
            found.append(greatest)
            self.assert_same(is_greatest(store, start, family), greatest)
            if safe(store, start, family):
                self.assert_same(is_greatest(store, start, grown(store, start, family)), True)
        self.assertGreater(found.count(True), 5)

    def test_one_right_within_its_rest_is_enough(self):
        for store, start, family in family_cases(8, 6):
            within = {set(right) <= set(rest_of(store, start, family, hand))
                      for hand, right in zip(hands_of(store), family)}
            self.assert_same(within, within if len(within) == 1 else None)
            self.assert_same(is_safe(store, start, family), True in within)

    def test_a_shifted_right(self):
        for store, start, family in family_cases(8, 3):
            shift = (3,) * len(store[0])
            shifted = (tuple(plus(one, shift) for one in family[0]), *family[1:])
            self.assert_same(is_safe(store, minus(start, shift), shifted), is_safe(store, start, family))


class GrownTest(StrictTest):
    def test_examples(self):
        self.assert_same([grown(TILL, START, BOTH), grown(TILL, START, BOTH, "bob")],
                         [(((-1,), (0,), (1,), (2,)), ((-1,), (0,))), (((-1,), (0,), (1,)), ((-1,), (0,), (1,)))])

    def test_against_the_definition(self):
        chance = random.Random(35)
        found = set()
        for store in [*STORES, GRID]:
            for start, family in safe_families(store, chance, 4):
                for hands in [(), *permutations(hands_of(store)), *product(hands_of(store), repeat=2)]:
                    result = grown(store, start, family, *hands)
                    self.assert_same(result, grown_by_hand(store, start, family, hands))
                    found.add((start, family, result))
        self.assertGreater(len(found), len({case[:2] for case in found}))

    def test_what_follows(self):
        chance = random.Random(38)
        for store in STORES:
            for start, family in safe_families(store, chance, 6):
                result = grown(store, start, family)
                for one, other in zip(family, result):
                    self.assertLessEqual(set(one), set(other))
                self.assert_same([is_safe(store, start, result), is_greatest(store, start, result)], [True, True])
                for hand in hands_of(store):
                    self.assert_same(grown(store, start, result, hand), result)
                if len(store[2]) == 2:
                    target = tuple(minus(state, start) for state in goods(store))
                    pairs = greatest_pairs(target, *family)
                    for hands in permutations(hands_of(store)):
                        self.assertIn(grown(store, start, family, *hands), pairs)

    def test_hands_named_twice(self):
        self.assert_same(grown(TILL, START, BOTH, "bob", "bob", "ann", "bob"), grown(TILL, START, BOTH, "bob"))
        self.assert_same(grown(TILL, START, BOTH, "ann", "bob", "ann"), WIDE)

    def test_a_family_that_is_the_greatest_is_returned_as_a_new_one(self):
        self.assert_same(grown(family=WIDE, start=START, store=TILL), WIDE)
        self.assertIsNot(grown(TILL, START, WIDE), WIDE)

    def test_thirty_six_good_states(self):
        family = (((0, 0),),) * 3
        result = grown(GRID, (2, 2), family, "eve")
        self.assert_same(result[2], tuple(minus(state, (2, 2)) for state in goods(GRID)))
        self.assert_same(result[:2], family[:2])
        # What is returned may be passed in again, whatever its size.
        self.assert_same(grown(GRID, (2, 2), result, "ann"), result)

    def test_not_safe(self):
        for store, start, family in ((TILL, (4,), BOTH), (TILL, (0,), BOTH), (TILL, (99,), BOTH),
                                     (NONE_GOOD, (1,), (((0,),), ((0,),))), (ALONE, (1,), (((0,),),))):
            self.assert_fails(InvalidFamily("unsafe", -1), grown, store, start, family)
            self.assert_fails(InvalidFamily("unsafe", -1), grown, store, start, family, "ann", "ann")


class WrongFamiliesTest(StrictTest):
    def fails(self, word, at, store, family):
        self.assert_fails(InvalidFamily(word, at), is_safe, store, zero(store), family)
        self.assert_fails(InvalidFamily(word, at), whole_states, store, zero(store), family)
        self.assert_fails(InvalidFamily(word, at), is_greatest, store, zero(store), family)
        self.assert_fails(InvalidFamily(word, at), rest_of, store, zero(store), family, "ann")
        self.assert_fails(InvalidFamily(word, at), grown, store, zero(store), family)
        self.assert_fails(InvalidFamily(word, at), grown, store, zero(store), family, "bob", "ann")

    def test_shape(self):
        for value in ANYTHING:
            if type(value) is not tuple or len(value) != 2:
                self.fails("shape", -1, TILL, value)
            if type(value) is not tuple or len(value) != 3:
                self.fails("shape", -1, GRID, value)
        self.fails("shape", -1, TILL, list(BOTH))
        self.fails("shape", -1, TILL, BOTH[:1])
        self.fails("shape", -1, TILL, (*BOTH, ((0,),)))
        self.fails("shape", -1, IDLE, (5,))
        self.fails("shape", -1, GRID, (((0, 0),),) * 2)

    def test_rights(self):
        fits = ((0,),)
        for value in [*ANYTHING, *NO_RIGHTS, ((0, 0),)]:
            for family, at in (((value, fits), 0), ((fits, value), 1), ((value, value), 0), ((value, 7), 0)):
                self.fails("right", at, TILL, family)
        for value in [*ANYTHING, *NO_RIGHTS, ((0,),)]:
            fits = ((0, 0), (1, 0))
            for family, at in (((value, fits, None), 0), ((fits, value, value), 1), ((fits, fits, value), 2)):
                self.fails("right", at, GRID, family)

    def test_unknown_hands_come_first(self):
        for value in ANYTHING + ["put", "eve", ("ann", "put")]:
            for family in (BOTH, (), None, (BOTH[0], ((True,),))):
                for call in (lambda: rest_of(TILL, (99,), family, value), lambda: grown(TILL, (99,), family, value),
                             lambda: grown(TILL, (99,), family, "bob", value, 5, "x")):
                    with self.assertRaises(UnknownHand) as caught:
                        call()
                    self.assertIs(caught.exception.hand, value)


if __name__ == "__main__":
    unittest.main()
