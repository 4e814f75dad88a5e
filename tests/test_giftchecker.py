"""DOC.md [9], [53], [54]: whether any value is a gift paper."""

import unittest
from itertools import product

from ownrights.errors import InvalidPaper
from ownrights.giftchecker import lets_gift
from ownrights.giftpapers import gift_paper
from tests.direct import GRID, all_sums, good, goods, plus, subsets
from tests.helpers import ANYTHING, BOTH, TILL, StrictTest
from tests.test_giving import gifts

RIGHTS = (BOTH[0], ((0,), (1,)), BOTH[1], ((-1,), (0,), (1,)))
PAPER = ((1,), (1,), (3,))


def due_of(store, rights, paper):
    """The first word that applies, by the definition, or None."""
    old, new, heir_old, heir_new = rights
    x, y, c = paper
    if x not in new:
        return "given"
    if y not in heir_new:
        return "got"
    if len(c) != len(store[0]) or not all(good(store, plus(c, one)) for one in all_sums((old, heir_old))):
        return "old"
    return "good" if good(store, plus(c, x, y)) else None


class LetsGiftTest(StrictTest):
    def check(self, store, rights, paper):
        word = due_of(store, rights, paper)
        if word is None:
            self.assert_same(lets_gift(store, *rights, paper), paper[2])
        else:
            self.assert_fails(InvalidPaper(word, -1), lets_gift, store, *rights, paper)
        return word

    def test_what_gift_paper_returns(self):
        many = 0
        for store, *rights in gifts(57, 25):
            paper = gift_paper(store, *rights)
            if paper is not None:
                many += 1
                self.assert_same(lets_gift(store, *rights, paper), paper[2])
        self.assertGreater(many, 20)

    def test_each_paper_of_the_till(self):
        sums = [(x,) for x in range(-3, 7)]
        words = [self.check(TILL, RIGHTS, paper) for paper in product(sums, repeat=3)]
        for word in ("given", "got", "old", "good", None):
            self.assertIn(word, words)

    def test_papers_of_other_stores(self):
        words = []
        for store, *rights in gifts(58, 30):
            for c in [*goods(store), *product((-1, 5), repeat=len(store[0]))]:
                for x in rights[1]:
                    for y in rights[3]:
                        words.append(self.check(store, rights, (x, y, c)))
        self.assertGreater(words.count(None), 20)

    def test_by_name(self):
        old, new, heir_old, heir_new = RIGHTS
        self.assert_same(lets_gift(thing=PAPER, heir_new=heir_new, heir_old=heir_old, new=new, old=old, store=TILL), (3,))

    def test_shape(self):
        for value in ANYTHING + [list(PAPER), PAPER[:2], (*PAPER, PAPER[0]), (PAPER,)]:
            if value != ((0,), (0,), (0,)):
                self.assert_fails(InvalidPaper("shape", -1), lets_gift, TILL, *RIGHTS, value)
        for value in ANYTHING + [[1], 1, "1", (True,), ("1",), (1, None), ((1,),)]:
            if type(value) is tuple and all(type(number) is int for number in value):
                continue
            for at in range(3):
                self.assert_fails(InvalidPaper("shape", -1), lets_gift, TILL, *RIGHTS, (*PAPER[:at], value, *PAPER[at + 1:]))
                # "shape" comes before all others.
                self.assert_fails(InvalidPaper("shape", -1), lets_gift, TILL, *RIGHTS, (*[(9,)] * at, value, *[(9,)] * (2 - at)))

    def test_sums_of_other_lengths(self):
        for value in ((), (1, 0), (0, 1), (2, 0), (3, 0), (1,) * 4999):
            self.assert_fails(InvalidPaper("given", -1), lets_gift, TILL, *RIGHTS, (value, PAPER[1], PAPER[2]))
            self.assert_fails(InvalidPaper("got", -1), lets_gift, TILL, *RIGHTS, (PAPER[0], value, PAPER[2]))
            self.assert_fails(InvalidPaper("old", -1), lets_gift, TILL, *RIGHTS, (PAPER[0], PAPER[1], value))

    def test_the_order(self):
        for paper, word in ((((9,), (9,), (9,)), "given"), (((1,), (9,), (9,)), "got"), (((1,), (1,), (9,)), "old"),
                            (((1,), (1,), (1,)), "old"), (((0,), (1,), (3,)), "good"), (((1,), (0,), (3,)), "good"),
                            (((-1,), (1,), (3,)), "given"), (((1,), (1,), (2,)), "good")):
            self.assert_fails(InvalidPaper(word, -1), lets_gift, TILL, *RIGHTS, paper)

    def test_rights_that_are_no_gift(self):
        # Whether new lies within old, and heir_old within heir_new, is not looked at.
        for new in subsets([(-3,), (0,), (2,)])[1:]:
            for heir_new in subsets([(-4,), (1,), (3,)])[1:]:
                rights = (BOTH[0], new, BOTH[1], heir_new)
                paper = gift_paper(TILL, *rights)
                if paper is not None:
                    self.check(TILL, rights, paper)

    def test_two_items(self):
        rights = (((0, 0), (1, 0)), ((0, 0),), ((0, 0),), ((0, 0), (0, 5)))
        paper = gift_paper(GRID, *rights)
        self.assert_same(lets_gift(GRID, *rights, paper), paper[2])
        self.assert_fails(InvalidPaper("old", -1), lets_gift, GRID, *rights, (*paper[:2], paper[2][:1]))


if __name__ == "__main__":
    unittest.main()
