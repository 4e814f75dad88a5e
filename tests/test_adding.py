"""DOC.md [3], [13]: sums added element by element."""

import unittest

from ownrights.adding import added, subtracted, zero_sum
from tests.helpers import StrictTest

BIG = 10 ** 60 - 1


class AddingTest(StrictTest):
    def test_example(self):
        self.assert_same(added((1, 2), (0, -3), (1, 1)), (2, 0))

    def test_added(self):
        self.assert_same(added((5,)), (5,))
        self.assert_same(added(one=(5, -6)), (5, -6))
        self.assert_same(added((5,), (-7,)), (-2,))
        self.assert_same(added((BIG, -BIG), (1, -1)), (10 ** 60, -(10 ** 60)))
        self.assert_same(added((1, 2, 3), (10, 20, 30), (100, 200, 300), (-1, -2, -3)), (110, 220, 330))

    def test_the_result_is_new(self):
        one = (1, 2)
        self.assertIsNot(added(one), one)
        self.assertIsNot(added(one, (0, 0)), one)
        self.assertEqual(one, (1, 2))

    def test_zero_sum(self):
        self.assert_same([zero_sum(0), zero_sum(1), zero_sum(many=3)], [(), (0,), (0, 0, 0)])

    def test_subtracted(self):
        self.assert_same(subtracted((1, -2), (3, -5)), (-2, 3))
        self.assert_same(added(subtracted((7, BIG), (-4, 1)), (-4, 1)), (7, BIG))


if __name__ == "__main__":
    unittest.main()
