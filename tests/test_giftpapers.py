"""DOC.md [53], [54]: papers that show that a gift is not right."""

import random
import unittest
from itertools import product

from ownrights.giftpapers import gift_paper
from tests import direct
from tests.direct import GRID, NONE_GOOD, STORES, all_sums, good, goods, hands_of, plus, rest, safe_families, subsets
from tests.helpers import BOTH, TILL, StrictTest


def is_right(store, old, new, heir_old, heir_new):
    """Whether the sums of both new rights are in the worth of the sums of both old ones."""
    value = direct.worth(all_sums((old, heir_old)), goods(store))
    return set(all_sums((new, heir_new))) <= set(value)


class GiftPaperTest(StrictTest):
    def check(self, store, old, new, heir_old, heir_new):
        """Look at the paper by the definition, and return whether there is one."""
        paper = gift_paper(store, old, new, heir_old, heir_new)
        around = rest(all_sums((old, heir_old)), goods(store))
        due = [(x, y, c) for x in new for y in heir_new for c in around if not good(store, plus(c, x, y))]
        if not due:
            self.assert_same(paper, None)
            return False
        self.assertIs(type(paper), tuple)
        self.assertTrue(any(direct_same(paper, one) for one in due))
        return True

    def test_small_ones(self):
        self.assert_same(gift_paper(TILL, BOTH[0], ((0,), (1,)), BOTH[1], ((-1,), (0,), (1,))), ((1,), (1,), (3,)))
        self.assert_same(gift_paper(heir_new=((-2,), (-1,), (0,)), heir_old=BOTH[1], new=((0,), (1,)), old=BOTH[0], store=TILL),
                         None)
        self.assert_same(gift_paper(TILL, BOTH[0], BOTH[0], BOTH[1], BOTH[1]), None)
        self.assert_same(gift_paper(TILL, BOTH[0], BOTH[0], BOTH[1], ((-2,), (-1,), (0,))), ((-1,), (-2,), (2,)))

    def test_all_gifts_of_the_till(self):
        wider = [((x,), *BOTH[1]) if x < -1 else (*BOTH[1], (x,)) for x in (-4, -3, -2, 1, 2, 3)]
        found = []
        for new in subsets(BOTH[0])[1:]:
            for heir_new in (BOTH[1], *wider):
                found.append(self.check(TILL, BOTH[0], new, BOTH[1], heir_new))
                self.assert_same(found[-1], not is_right(TILL, BOTH[0], new, BOTH[1], heir_new))
        self.assertGreater(found.count(True), 5)
        self.assertGreater(found.count(False), 5)

    def test_rights_of_safe_families(self):
        chance = random.Random(54)
        found = []
        for store in [*STORES, GRID]:
            pool = list(product(range(-2, 3), repeat=len(store[0])))
            for _, family in safe_families(store, chance, 12, tries=8):
                if len(family) < 2:
                    continue
                giver, heir = chance.sample(range(len(family)), 2)
                old, heir_old = family[giver], family[heir]
                new = tuple(sorted(chance.sample(old, chance.randint(1, len(old)))))
                heir_new = tuple(sorted({*heir_old, *chance.sample(pool, chance.randint(0, 2))}))
                found.append(self.check(store, old, new, heir_old, heir_new))
                self.assert_same(found[-1], not is_right(store, old, new, heir_old, heir_new))
        self.assertGreater(found.count(True), 10)
        self.assertGreater(found.count(False), 10)

    def test_rights_of_any_kind(self):
        # Whether new lies within old, and heir_old within heir_new, is not looked at.
        chance = random.Random(53)
        pool = [(x,) for x in range(-3, 4)]
        for _ in range(200):
            rights = [tuple(sorted(chance.sample(pool, chance.randint(1, 3)))) for _ in range(4)]
            self.check(TILL, *rights)

    def test_no_surroundings(self):
        self.assert_same(gift_paper(NONE_GOOD, ((0,),), ((0,),), ((0,),), ((0,), (9,))), None)

    def test_one_sum_and_twelve_sums(self):
        right = tuple((x, y) for x in range(4) for y in range(3))
        self.assertTrue(self.check(GRID, right, right[:1], ((0, 0),), ((0, 0), (9, 0))))
        self.assertFalse(self.check(GRID, right, right[:1], ((0, 0),), ((0, 0), (1, 0))))
        self.assertEqual(len(hands_of(GRID)), 3)
        for x in range(-5, 6):
            self.check(TILL, ((0,),), ((0,),), ((0,),), tuple(sorted({(0,), (x,)})))


def direct_same(one, other):
    return one == other and all(type(number) is int for part in one for number in part)


if __name__ == "__main__":
    unittest.main()
