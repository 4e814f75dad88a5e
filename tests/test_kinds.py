"""DOC.md [2], [3], [10]: the kinds of any value."""

import unittest

from ownrights.kinds import is_integer, is_name, is_number, is_pair, is_right, is_sum, is_sums, is_tuple
from tests.helpers import ANYTHING, StrictTest

BIG = 10 ** 60 - 1


class KindsTest(StrictTest):
    def check(self, call, yes, no, *more):
        for due, values in ((True, yes), (False, no)):
            for value in values:
                with self.subTest(value=value, more=more):
                    self.assert_same(call(value, *more), due)

    def test_is_integer(self):
        self.check(is_integer, [0, 1, -1, BIG, -BIG], [True, False, None, "1", "", (1,), [1], (), []])

    def test_is_number(self):
        self.check(is_number, [0, 1, BIG], [-1, -BIG, True, False, None, "1", (1,), [1]])

    def test_is_name(self):
        yes = ["a", "z", "ann", "item", "not", "abcdefgh", "az", "zzzzzzzz"]
        no = ["", "abcdefghi", "Ann", "aNn", "anN", "1nn", "a1n", "an1", " ann", "an n", "ann ", "ann\n", "\nann",
              "a\nb", "an_", "a-b", "`", "{", "a`", "a{", "ann,bob", "\u00e9", "\u00df", "\u0430"]
        self.check(is_name, yes, no + [None, True, 5, ("ann",), ["a", "n", "n"], ("a",), ()])

    def test_is_sum(self):
        self.check(is_sum, [(0,), (-3,), (BIG,)], [(), (0, 0), [0], 0, "0", (True,), (None,), ("0",), ((0,),)], 1)
        self.check(is_sum, [(0, 1), (-BIG, BIG)], [(), (0,), (0, 1, 2), [0, 1], (0, True), (False, 0), (0, "1")], 2)
        self.check(is_sum, [()], [(0,), [], "", None, ((),)], 0)

    def test_is_sums(self):
        yes = [(), ((0,),), ((-1,), (0,), (5,)), ((-BIG,), (BIG,))]
        no = [[], [(0,)], ((0,), [1]), ((1,), (0,)), ((0,), (0,)), ((0,), (1,), (1,)), ((0, 0),), ((),), (0,), 0, None,
              ((True,),), ((0,), (True,)), ((0,), None), "", ((-1,), (-2,)), ((0,), (2,), (1,))]
        self.check(is_sums, yes, no, 1)
        self.check(is_sums, [(), ((0, 5), (1, -5)), ((0, 1), (0, 2))], [((0, 2), (0, 1)), ((0, 1), (1,)), ((0,),)], 2)

    def test_is_right(self):
        self.check(is_right, [((0,),), ((-1,), (0,), (5,))], [(), ((0, 0),), ((1,), (0,)), [(0,)], ((True,),), None], 1)

    def test_tuples(self):
        self.check(is_pair, [(1, 2), (None, ())], [(), (1,), (1, 2, 3), [1, 2], "ab", None, 2])
        self.check(is_tuple, [(1, 2, 3)], [(), (1, 2), [1, 2, 3], "abc", None, 3], 3)

    def test_any_value(self):
        for value in ANYTHING:
            for call, more in ((is_integer, ()), (is_number, ()), (is_name, ()), (is_sum, (1,)), (is_sums, (1,))):
                with self.subTest(call=call.__name__, value=repr(value)[:60]):
                    self.assertIs(type(call(value, *more)), bool)
        self.assertEqual([value for value in ANYTHING if is_name(value)], [])

    def test_by_name(self):
        self.assert_same(is_integer(thing=1), True)
        self.assert_same(is_number(thing=-1), False)
        self.assert_same(is_name(thing="a"), True)
        self.assert_same(is_sum(many=2, thing=(1, 2)), True)
        self.assert_same(is_sums(many=1, thing=((1, 2),)), False)


if __name__ == "__main__":
    unittest.main()
