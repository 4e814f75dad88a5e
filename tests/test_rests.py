"""DOC.md [3], [5], [6]: sets of sums, added, and their rest, as the other modules use them."""

import unittest

from ownrights.rests import (
    all_added, all_in, as_set, beside, choice_outside, grown_rights, is_choice, least_choice_sum, rest_beside, rest_of_sums,
    sums_of_rights, with_right,
)
from tests.helpers import ANYTHING, StrictTest

RIGHTS = (((-1,), (0,), (1,)), ((-1,), (0,)))


class RestsTest(StrictTest):
    def test_as_set(self):
        self.assert_same([as_set(()), as_set([(2,), (0,), (2,), (-1,)])], [(), ((-1,), (0,), (2,))])

    def test_all_added(self):
        self.assert_same(all_added(((0,), (1,)), ((-1,), (0,))), ((-1,), (0,), (1,)))
        self.assert_same(all_added(((1, 0), (0, 5)), ((0, 0),)), ((0, 5), (1, 0)))
        self.assert_same([all_added((), ((0,),)), all_added(((0,),), ())], [(), ()])

    def test_rest_of_sums(self):
        target = ((0,), (1,), (2,), (3,), (5,))
        self.assert_same(rest_of_sums(((0,), (2,)), target), ((0,), (1,), (3,)))
        self.assert_same(rest_of_sums(((2,), (0,)), target), ((0,), (1,), (3,)))
        self.assert_same(rest_of_sums(((0,), (9,)), target), ())
        self.assert_same(rest_of_sums(((-1,),), target), ((1,), (2,), (3,), (4,), (6,)))
        self.assert_same(rest_of_sums(((0,),), ()), ())

    def test_all_in(self):
        self.assert_same([all_in(((0,), (2,)), ((0,), (1,), (2,))), all_in(((0,), (3,)), ((0,), (1,), (2,)))], [True, False])
        self.assert_same([all_in((), ()), all_in(((0,),), ())], [True, False])

    def test_sums_of_rights(self):
        self.assert_same(sums_of_rights(RIGHTS), ((-2,), (-1,), (0,), (1,)))
        self.assert_same(sums_of_rights(RIGHTS[:1]), RIGHTS[0])
        self.assert_same(sums_of_rights((((0, 1),), ((1, 0), (2, 0)), ((0, 0), (1, 0)))), ((1, 1), (2, 1), (3, 1)))
        self.assert_same([least_choice_sum(RIGHTS), least_choice_sum((((5, 1), (6, 0)),))], [(-2,), (5, 1)])

    def test_rights_beside_others(self):
        self.assert_same(with_right(RIGHTS, 1, ((9,),)), (RIGHTS[0], ((9,),)))
        self.assert_same(with_right(list(RIGHTS), 0, ()), ((), RIGHTS[1]))
        self.assert_same([beside(RIGHTS, 0), beside((((1, 2),),), 0)], [(((0,),), RIGHTS[1]), (((0, 0),),)])
        target = ((-2,), (-1,), (0,), (1,), (2,))
        self.assert_same(rest_beside(RIGHTS, 0, target), ((-1,), (0,), (1,), (2,)))
        self.assert_same(rest_beside(RIGHTS[:1], 0, target), target)

    def test_grown_rights(self):
        target = ((-2,), (-1,), (0,), (1,), (2,))
        self.assert_same(grown_rights(RIGHTS, target, ()), (((-1,), (0,), (1,), (2,)), RIGHTS[1]))
        self.assert_same(grown_rights(list(RIGHTS), target, [1, 1]), (RIGHTS[0], ((-1,), (0,), (1,))))

    def test_is_choice(self):
        self.assert_same([is_choice(RIGHTS, ((x,), (y,))) for x, y in ((-1, -1), (1, 0), (2, 0), (0, 1))],
                         [True, True, False, False])
        self.assert_same([is_choice(RIGHTS, ((True,), (0,))), is_choice(RIGHTS, [(0,), (0,)]), is_choice(RIGHTS, ((0,),))],
                         [False, False, False])
        for value in ANYTHING:
            self.assert_same(is_choice(RIGHTS, value), value == ((0,), (0,)))
            self.assert_same(is_choice(RIGHTS, (value, (0,))), value == (0,))

    def test_choice_outside(self):
        self.assert_same(choice_outside(RIGHTS, sums_of_rights(RIGHTS)), None)
        for target, due in (((-2,), (-1,), (0,)), [((1,), (0,))]), (((-1,), (0,), (1,)), [((-1,), (-1,))]):
            self.assertIn(choice_outside(RIGHTS, target), due)
        self.assertIn(choice_outside(RIGHTS, ((-2,), (0,), (1,))), [((-1,), (0,)), ((0,), (-1,))])


if __name__ == "__main__":
    unittest.main()
