"""DOC.md [3], [5], [6]: sets of sums, added, and their rest, as the other modules use them."""

import unittest

from ownrights.rests import all_added, as_set, rest_of_sums
from tests.helpers import StrictTest


class RestsTest(StrictTest):
    def test_as_set(self):
        self.assert_same([as_set(()), as_set([(2,), (0,), (2,), (-1,)])], [(), ((-1,), (0,), (2,))])

    def test_all_added(self):
        self.assert_same(all_added(((0,), (1,)), ((-1,), (0,))), ((-1,), (0,), (1,)))
        self.assert_same(all_added(((1, 0), (0, 5)), ((0, 0),)), ((0, 5), (1, 0)))
        self.assert_same([all_added((), ((0,),)), all_added(((0,),), ())], [(), ()])

    def test_rest_of_sums(self):
        target = ((0,), (1,), (2,), (3,), (5,))
        self.assert_same(rest_of_sums(((0,), (2,)), target), ((0,), (1,), (3,)))
        self.assert_same(rest_of_sums(((2,), (0,)), target), ((0,), (1,), (3,)))
        self.assert_same(rest_of_sums(((0,), (9,)), target), ())
        self.assert_same(rest_of_sums(((-1,),), target), ((1,), (2,), (3,), (4,), (6,)))
        self.assert_same(rest_of_sums(((0,),), ()), ())


if __name__ == "__main__":
    unittest.main()
