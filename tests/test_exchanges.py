"""DOC.md [6], [7] (U3), [9], [39], [40], [41], [42]: what some hands may exchange among themselves."""

import random
import unittest
from itertools import permutations, product

from ownrights.errors import InvalidFamily
from ownrights.exchanges import grown_exchange, may_exchange, surroundings, worth
from ownrights.families import is_safe
from ownrights.pairing import greatest_pairs
from ownrights.sums import Sums
from tests import direct
from tests.direct import (
    GRID, NO_RIGHTS, NONE_GOOD, STORES, all_sums, goods, minus, plus, rest, safe_families, subsets,
)
from tests.helpers import ANYTHING, BOTH, TILL, StrictTest

NEW = (((0,), (1,)), ((-2,), (-1,), (0,)))
# Two sums that no two good states are as far from each other as.
FAR = (((0,), (9,)),)


def some_rights(store, chance, many, far):
    """A tuple of rights, drawn by chance from the sums up to far in each item."""
    pool = list(product(range(-far, far + 1), repeat=len(store[0])))
    return tuple(tuple(sorted(chance.sample(pool, chance.randint(1, 3)))) for _ in range(many))


def cases(each):
    """Stores with old and new rights of all sorts, one to four of them."""
    chance = random.Random(39)
    for store in [*STORES, GRID]:
        for many in (1, 2, 3, 4):
            for _ in range(each):
                old = some_rights(store, chance, many, chance.choice((1, 1, 2)))
                yield store, old, some_rights(store, chance, many, 1)
                parts = tuple(tuple(sorted(chance.sample(right, chance.randint(1, len(right))))) for right in old)
                yield store, old, parts
                yield store, parts, old


def worth_by_hand(store, old):
    return direct.worth(all_sums(old), goods(store))


def may_by_hand(store, old, new):
    """Look at all surroundings and all sums of the new rights."""
    states = goods(store)
    around = [c for c in {minus(state, one) for state in states for one in all_sums(old)}
              if all(plus(c, one) in states for one in all_sums(old))]
    return all(plus(c, one) in states for c in around for one in all_sums(new))


def grown_by_hand(store, old, new, order):
    rights = list(new)
    value = worth_by_hand(store, old)
    for at in [*order, *[at for at in range(len(new)) if at not in order]]:
        others = all_sums([*rights[:at], ((0,) * len(store[0]),), *rights[at + 1:]])
        rights[at] = rest(others, value)
    return tuple(rights)


class WorthTest(StrictTest):
    def test_examples(self):
        self.assert_same([surroundings(TILL, BOTH), worth(TILL, BOTH)], [((2,), (3,)), ((-2,), (-1,), (0,), (1,))])

    def test_against_the_definition(self):
        found = set()
        for store, old, _ in cases(8):
            due = rest(all_sums(old), goods(store))
            self.assert_same(surroundings(old=old, store=store), due)
            self.assert_same(worth(old=old, store=store), worth_by_hand(store, old) if due else None)
            found.add((store, due))
        self.assertGreater(len(found), 50)

    def test_no_surroundings(self):
        self.assert_same([surroundings(TILL, FAR), worth(TILL, FAR)], [(), None])
        self.assert_same([surroundings(NONE_GOOD, BOTH), worth(NONE_GOOD, BOTH)], [(), None])

    def test_one_sum_is_worth_itself(self):
        for x in (-10 ** 59, -12, -1, 0, 7):
            self.assert_same(worth(TILL, (((x,),),)), ((x,),))
            self.assert_same(worth(TILL, (((x,),), ((5,),), ((0,),))), ((x + 5,),))

    def test_it_is_the_worth_of_sets_of_sums(self):
        for store, old, _ in cases(2):
            value = Sums(tuple(all_sums(old))).worth_in(Sums(tuple(goods(store))))
            self.assert_same(worth(store, old), None if value is None else value.form)


class MayExchangeTest(StrictTest):
    def test_example(self):
        self.assert_same(may_exchange(TILL, BOTH, NEW), True)

    def test_against_the_definition(self):
        found = []
        for store, old, new in cases(8):
            found.append(may_by_hand(store, old, new))
            self.assert_same(may_exchange(new=new, old=old, store=store), found[-1])
        self.assertGreater(found.count(True), 100)
        self.assertGreater(found.count(False), 100)

    def test_no_surroundings(self):
        self.assert_same([may_exchange(TILL, FAR, (((-9,), (99,)),)), may_exchange(NONE_GOOD, BOTH, NEW)], [True, True])

    def test_rights_for_themselves_and_for_parts(self):
        for store, old, _ in cases(2):
            parts = [[some for some in subsets(right) if some] for right in old]
            for new in [old, *list(product(*parts))[:20]]:
                self.assert_same(may_exchange(store, old, tuple(new)), True)

    def test_one_after_the_other(self):
        chance = random.Random(42)
        rights = [some_rights(TILL, chance, 2, 1) for _ in range(25)]
        for old, new, third in product(rights, repeat=3):
            if may_exchange(TILL, old, new) and may_exchange(TILL, new, third):
                self.assert_same(may_exchange(TILL, old, third), True)

    def test_a_further_right(self):
        further = ((-1,), (1,))
        for store, old, new in cases(3):
            if len(store[0]) == 1 and may_exchange(store, old, new):
                self.assert_same(may_exchange(store, (*old, further), (*new, further)), True)

    def test_the_family_stays_safe(self):
        chance = random.Random(30)
        many = 0
        for store in STORES:
            for start, family in safe_families(store, chance, 10):
                for hands in [some for some in subsets(range(len(family))) if some]:
                    old = tuple(family[at] for at in hands)
                    new = some_rights(store, chance, len(old), 1)
                    changed = list(family)
                    for at, right in zip(hands, new):
                        changed[at] = right
                    may = may_exchange(store, old, new)
                    if may:
                        many += 1
                        self.assert_same(is_safe(store, start, tuple(changed)), True)
                    if len(hands) == len(family) and not may:
                        # From some start the family of all hands would not be safe any more.
                        self.assertTrue([one for one in surroundings(store, old) if not is_safe(store, one, new)])
        self.assertGreater(many, 20)


class GrownExchangeTest(StrictTest):
    def test_example(self):
        self.assert_same(grown_exchange(TILL, BOTH, (((0,),), ((0,),)), 1), (((0,),), ((-2,), (-1,), (0,), (1,))))

    def orders(self, many):
        return [(), *permutations(range(many)), *[(at,) for at in range(many)], (many - 1, 0, many - 1), (0, 0)]

    def test_against_the_definition(self):
        found = set()
        for store, old, new in cases(4):
            if worth_by_hand(store, old) is None or not may_by_hand(store, old, new):
                self.assert_same(may_exchange(store, old, new), may_by_hand(store, old, new))
                continue
            for order in self.orders(len(new)):
                result = grown_exchange(store, old, new, *order)
                self.assert_same(result, grown_by_hand(store, old, new, order))
                found.add((store, old, new, result))
        self.assertGreater(len(found), len({case[:3] for case in found}))

    def test_what_follows(self):
        for store, old, new in cases(3):
            value = worth_by_hand(store, old)
            if value is None or not may_by_hand(store, old, new):
                continue
            result = grown_exchange(store, old, new)
            for one, other in zip(new, result):
                self.assertLessEqual(set(one), set(other))
            self.assert_same(may_exchange(store, old, result), True)
            self.assert_same(grown_exchange(store, old, result), result)
            if len(old) == 2:
                self.assertIn(result, greatest_pairs(value, *new))

    def test_one_right_gets_the_worth(self):
        for old in ((((0,), (2,)),), (((-3,), (-2,)),)):
            self.assert_same(grown_exchange(TILL, old, old), (worth(TILL, old),))
        self.assert_same(grown_exchange(new=(((0,),),), old=(((0,),),), store=TILL), (((0,),),))

    def test_worth(self):
        for store, old, new in ((TILL, FAR, FAR), (NONE_GOOD, BOTH, BOTH), (TILL, BOTH, (((2,),), ((0,),))),
                                (TILL, BOTH, (((-2,), (-1,)), ((-1,), (0,))))):
            for order in self.orders(len(old)):
                self.assert_fails(InvalidFamily("worth", -1), grown_exchange, store, old, new, *order)


class WrongRightsTest(StrictTest):
    def fails_old(self, at, old):
        for call in (surroundings, worth):
            self.assert_fails(InvalidFamily(*at), call, TILL, old)
        for new in (BOTH, (), None, old, (((0,), (0,)),)):
            self.fails(at, old, new)

    def fails(self, at, old, new):
        self.assert_fails(InvalidFamily(*at), may_exchange, TILL, old, new)
        for order in ((), (0,), (7, None)):
            self.assert_fails(InvalidFamily(*at), grown_exchange, TILL, old, new, *order)

    def test_old(self):
        fits = ((0,),)
        for value in [*ANYTHING, list(BOTH), {0: fits}, "x"]:
            if type(value) is not tuple or value == ():
                self.fails_old(("shape", 0), value)
        for value in [*ANYTHING, *NO_RIGHTS, ((0, 0),)]:
            for old, at in (((value,), 0), ((value, fits), 0), ((fits, value), 1), ((fits, value, value), 1),
                            ((fits, fits, fits, value), 3)):
                self.fails_old(("right", (0, at)), old)

    def test_new(self):
        fits = ((0,),)
        for value in [*ANYTHING, list(BOTH), BOTH[:1], (*BOTH, fits), {0: fits, 1: fits}, "xy"]:
            if type(value) is not tuple or len(value) != 2:
                self.fails(("shape", 1), BOTH, value)
        for value in [*ANYTHING, *NO_RIGHTS, ((0, 0),)]:
            for new, at in (((value, fits), 0), ((fits, value), 1), ((value, value), 0)):
                self.fails(("right", (1, at)), BOTH, new)
                self.fails(("right", (1, at)), FAR * 2, new)

    def test_order(self):
        for value in ANYTHING + [2, "0", (1,), [0], ("x",)]:
            if type(value) is int and 0 <= value < 2:
                continue
            for at, order in ((0, (value,)), (0, (value, value, 0)), (1, (1, value)), (3, (0, 1, 0, value, None))):
                # It comes before what is wrong with the worth.
                for old, new in ((BOTH, NEW), (FAR * 2, NEW), (BOTH, (((9,),), ((9,),)))):
                    self.assert_fails(InvalidFamily("order", at), grown_exchange, TILL, old, new, *order)
        self.assert_same(grown_exchange(TILL, BOTH, BOTH, 1, 1, 1, 0), grown_exchange(TILL, BOTH, BOTH, 1))


if __name__ == "__main__":
    unittest.main()
