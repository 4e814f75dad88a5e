"""DOC.md [3], [4], [17]: expressions, sums and stores as texts."""

import unittest

from ownrights.storetexts import expression_text, store_text, sum_text, sums_text
from tests.helpers import SHOP, TILL, StrictTest

BIG = 10 ** 60 - 1


class StoreTextsTest(StrictTest):
    def test_examples(self):
        due = "item coins 0 4\nhand ann\ndeed put 1\ndeed take -1\nhand bob\ndeed take -1"
        self.assert_same([store_text(TILL), sums_text(((-1, 0), (2, 3)))], [due, "-1,0;2,3"])
        coins = ("item", "coins")
        rule = ("and", ("not", ("<", coins, 1)), ("=", coins, coins))
        self.assert_same(expression_text(rule), "and not < item coins 1 = item coins item coins")

    def test_expressions(self):
        rows = (
            (0, "0"), (-7, "-7"), (BIG, "9" * 60), (-BIG, "-" + "9" * 60), (("item", "not"), "item not"),
            (("-", -1, ("-", 2, 3)), "- -1 - 2 3"), (("-", ("-", -1, 2), 3), "- - -1 2 3"),
            (("*", ("+", 1, 2), ("item", "item")), "* + 1 2 item item"), (("<", 1, -2), "< 1 -2"),
            (("or", ("=", 1, 2), ("and", ("=", 3, 4), ("not", ("<", 5, 6)))), "or = 1 2 and = 3 4 not < 5 6"),
        )
        for expression, due in rows:
            self.assert_same(expression_text(expression), due)
            self.assert_same(expression_text(expression=expression), due)

    def test_sums(self):
        self.assert_same([sum_text((0,)), sum_text(one=(-1, 0, BIG))], ["0", "-1,0," + "9" * 60])
        self.assert_same([sums_text(()), sums_text(sums=((-5,),)), sums_text(((0,), (1,)))], ["-", "-5", "0;1"])

    def test_stores(self):
        due = [
            "item bread 0 9", "item coins -3 12", "rule < item bread 9", "rule not = item coins * 2 item bread",
            "hand ann", "deed bake 1,0", "deed buy -1,2", "hand bob", "hand eve", "deed rob 0,-12",
        ]
        self.assert_same(store_text(SHOP), "\n".join(due))
        self.assert_same(store_text(store=((("a", -1, -1),), (), (("b", ()),))), "item a -1 -1\nhand b")

    def test_what_is_no_store_but_was_read(self):
        store = ((("b", 1, 0), ("a", 0, 0)), (("=", ("item", "c"), 1),), (("b", (("y", (1,)), ("x", (1, 2, 3)))),
                                                                         ("a", ())))
        due = "item b 1 0\nitem a 0 0\nrule = item c 1\nhand b\ndeed y 1\ndeed x 1,2,3\nhand a"
        self.assert_same(store_text(store), due)


if __name__ == "__main__":
    unittest.main()
