"""DOC.md [3], [17], [18], [19]: expressions, sums and stores read from texts."""

import unittest

from ownrights.errors import InvalidText
from ownrights.storereadings import expression_read, store_read, sum_read, sums_read
from ownrights.storetexts import expression_text, store_text, sum_text, sums_text
from tests.helpers import SHOP, TILL, StrictTest, nested

NINES = "9" * 60
BIG = int(NINES)
# Words that are no integers.
NO_INTEGERS = ["", "-", "--1", "+1", "01", "00", "-0", "-01", "1-", "1.0", "1e3", "0x1", "1_0", "a", "True", "1\n",
               "\n1", "\n", "1" + "0" * 60, "-1" + "0" * 60, "1,", "None", "\u0661", "\u00b2"]
NO_NAMES = ["", "abcdefghi", "Ann", "a1", "-", "1", "ann,bob", "ann\n", "\nann", "a.b", "\u00e9"]


class ReadingTest(StrictTest):
    def fails(self, call, text, line, field):
        """The text is not possible there; the parameters are added."""
        with self.subTest(text=text):
            self.assert_fails(InvalidText(line, field), call, text)
            self.assert_fails(InvalidText(line + 7, field), call, text, line=7)
            if call is not store_read:
                self.assert_fails(InvalidText(line, field + 5), call, text, field=5)
                self.assert_fails(InvalidText(line + 3, field + 1), call, field=1, line=3, text=text)


class ExpressionReadTest(ReadingTest):
    def wrong(self, text, field):
        self.fails(expression_read, text, 0, field)

    def test_values(self):
        rows = (
            ("0", 0), ("-7", -7), (NINES, BIG), ("-" + NINES, -BIG), ("item coins", ("item", "coins")),
            ("item item", ("item", "item")), ("item not", ("item", "not")), ("- -1 - 2 3", ("-", -1, ("-", 2, 3))),
            ("- - -1 2 3", ("-", ("-", -1, 2), 3)), ("* item a + 0 1", ("*", ("item", "a"), ("+", 0, 1))),
            ("= 1 2", ("=", 1, 2)), ("< item a -2", ("<", ("item", "a"), -2)), ("not < 1 2", ("not", ("<", 1, 2))),
            ("and = 1 2 or < 3 4 not = 5 6", ("and", ("=", 1, 2), ("or", ("<", 3, 4), ("not", ("=", 5, 6))))),
        )
        for text, due in rows:
            with self.subTest(text=text):
                self.assert_same(expression_read(text), due)
                self.assert_same(expression_read(text=text, line=9, field=9), due)
                self.assert_same(expression_text(due), text)

    def test_words_that_are_not_possible(self):
        for word in NO_INTEGERS:
            if word != "-":
                self.wrong(word, 0)
                self.wrong(f"+ {word} 1", 1)
                self.wrong(f"+ 1 {word}", 2)
                self.wrong(f"not = + 1 2 {word} 3", 5)
        for word in ("items", "Item", "plus", "==", ">", "xor", "AND", "not\n", "\nnot", "(", "%"):
            self.wrong(word, 0)
            self.wrong(f"not {word}", 1)
            self.wrong(f"not {word} 1 2", 1)

    def test_names(self):
        for word in NO_NAMES:
            self.wrong(f"item {word}", 1)
            self.wrong(f"= 1 - item {word} 1", 4)

    def test_wrong_kinds(self):
        for word in ("=", "<", "and", "or", "not"):
            self.wrong(f"+ {word} 1 2", 1)
            self.wrong(f"= 1 {word} 1 2", 2)
            self.wrong(f"not < * 1 {word} 1 2", 4)
        for word in ("1", "item", "+", "-", "*", "-5"):
            self.wrong(f"not {word} 1 2", 1)
            self.wrong(f"and {word} 1 2", 1)
            self.wrong(f"or = 1 2 {word}", 4)

    def test_empty_words(self):
        self.wrong("", 0)
        self.wrong(" ", 0)
        self.wrong(" 1", 0)
        self.wrong("1 ", 1)
        self.wrong("+  1 2", 1)
        self.wrong("+ 1  2", 2)
        self.wrong("+ 1 2 ", 3)
        self.wrong("item ", 1)
        self.wrong("item  a", 1)

    def test_missing_words(self):
        rows = (("item", 1), ("+", 1), ("+ 1", 2), ("-", 1), ("- -", 2), ("* 1 + 2", 4), ("=", 1), ("= 1", 2),
                ("< 1 item", 3), ("not", 1), ("not = 1", 3), ("and", 1), ("and = 1 2", 4), ("or = 1 2 not", 5))
        for text, field in rows:
            self.wrong(text, field)

    def test_one_word_too_many(self):
        for text, field in (("1 2", 1), ("item a b", 2), ("+ 1 2 3", 3), ("not = 1 2 3", 4), ("= 1 2 = 1 2", 3)):
            self.wrong(text, field)

    def test_the_first_word_that_is_not_possible(self):
        self.wrong("+ 01 x", 1)
        self.wrong("= 1 item A 01", 3)
        self.wrong("+ 1 2 3 x", 3)

    def test_newlines_belong_to_their_words(self):
        for text, field in (("1\n", 0), ("+ 1\n 2", 1), ("+\n 1 2", 0), ("+ 1\n2", 1), ("item a\n", 1), ("1 \n", 1)):
            self.wrong(text, field)

    def test_parts_within_thirty_others(self):
        for made, word in ((lambda rule: ("not", rule), "not"), (lambda rule: ("and", ("=", 1, 1), rule), "and = 1 1")):
            rule = nested(("=", 1, 2), 29, made)
            text = " ".join([word] * 29 + ["= 1 2"])
            self.assert_same(expression_read(text), rule)
            self.assert_same(expression_text(rule), text)
        for at in (1, 2):
            count = nested(("item", "a"), 30, lambda part: ("+", part, 0) if at == 1 else ("+", 0, part))
            self.assert_same(expression_read(expression_text(count)), count)

    def test_parts_within_thirty_one_others(self):
        nots = "not " * 30
        self.wrong(nots + "= 1 2", 31)
        self.wrong(nots + "= item a 2", 31)
        self.wrong(nots + "=", 31)
        self.wrong(nots + "=  ", 31)
        self.wrong(nots + "not = 1 2", 31)
        self.wrong(nots + "not", 31)
        self.wrong(nots.strip(), 30)
        self.wrong(nots + "x", 30)
        self.wrong("+ 0 " * 30 + "+ 0 0", 61)
        self.wrong("+ 0 " * 30 + "item", 61)
        self.wrong("+ " * 30 + "+ 0 0", 31)

    def test_the_name_of_an_item_is_no_part(self):
        count = nested(("item", "a"), 30, lambda part: ("-", part, 1))
        self.assert_same(expression_read("- " * 30 + "item a" + " 1" * 30), count)

    def test_deep_parts_behind_others(self):
        # Depth is counted along the way to a part, not along the text.
        text = "and " * 20 + "= 1 2 " + " ".join(["= 3 4"] * 20)
        self.assert_same(expression_text(expression_read(text)), text)


class SumReadTest(ReadingTest):
    def test_sums(self):
        for text, due in (("0", (0,)), ("-1,0,1", (-1, 0, 1)), (f"{NINES},-{NINES}", (BIG, -BIG)), ("5,5", (5, 5))):
            self.assert_same(sum_read(text), due)
            self.assert_same(sum_read(text=text, field=2, line=1), due)
            self.assert_same(sum_text(due), text)

    def test_wrong_sums(self):
        for word in NO_INTEGERS:
            self.fails(sum_read, word, 0, 0)
            self.fails(sum_read, f"1,{word}", 0, 0)
            self.fails(sum_read, f"{word},1", 0, 0)
        for text in ("1;2", " 1", "1, 2", "1\n,2", "1,2\n", ",", "(1,2)", "1,,2", "-,1"):
            self.fails(sum_read, text, 0, 0)

    def test_one_word_too_many(self):
        for text in ("1 2", "1 ", "1,2  ", "1 x", "1 \n"):
            self.fails(sum_read, text, 0, 1)


class SumsReadTest(ReadingTest):
    def test_sets(self):
        rows = (("-", ()), ("0", ((0,),)), ("-1", ((-1,),)), ("-2;-1;0", ((-2,), (-1,), (0,))),
                ("0,5;1,-5", ((0, 5), (1, -5))), (f"-{NINES};{NINES}", ((-BIG,), (BIG,))), ("9;10", ((9,), (10,))))
        for text, due in rows:
            self.assert_same(sums_read(text), due)
            self.assert_same(sums_read(text=text, field=2, line=1), due)
            self.assert_same(sums_text(due), text)

    def test_wrong_sets(self):
        for word in NO_INTEGERS:
            if word != "-":
                self.fails(sums_read, word, 0, 0)
            self.fails(sums_read, f"0;{word}", 0, 0)
            self.fails(sums_read, f"{word};5", 0, 0)
        for text in ("1;0", "0;0", "0;1;1", "10;9", "-1;-2", "0,1;0,0", "0,1;1", "0;0,1", "0;1,2", ";", "-;0", "0;-",
                     "--", "-\n", "\n-", " -", "0; 1"):
            self.fails(sums_read, text, 0, 0)

    def test_one_word_too_many(self):
        for text in ("- ", "- -", "0;1 2", "0;1 ", "0 1"):
            self.fails(sums_read, text, 0, 1)


class StoreReadTest(ReadingTest):
    def wrong(self, line, field, *rows):
        self.fails(store_read, "\n".join(rows), line, field)

    def test_example(self):
        self.assert_fails(InvalidText(1, 0), store_read, "item coins 0 4\ndeed take -1")

    def test_stores(self):
        for store in (TILL, SHOP, ((("item", -BIG, BIG),), (("=", 1, 1),), (("deed", (("rule", (1,)),)),))):
            text = store_text(store)
            self.assert_same(store_read(text), store)
            self.assert_same(store_read(text=text, line=4), store)

    def test_nothing_else_is_checked(self):
        text = "item b 1 0\nitem a 0 0\nitem a 0 0\nrule = item c 1\nhand b\ndeed y 1\ndeed x 1,2,3\nhand a\nhand a"
        due = ((("b", 1, 0), ("a", 0, 0), ("a", 0, 0)), (("=", ("item", "c"), 1),),
               (("b", (("y", (1,)), ("x", (1, 2, 3)))), ("a", ()), ("a", ())))
        self.assert_same(store_read(text), due)
        self.assert_same(store_text(due), text)

    def test_missing_lines(self):
        self.wrong(1, 0, "item a 0 1")
        self.wrong(2, 0, "item a 0 1", "item b 0 1")
        self.wrong(2, 0, "item a 0 1", "rule = 1 1")

    def test_empty_lines(self):
        self.wrong(0, 0, "")
        self.wrong(0, 0, "", "item a 0 1", "hand b")
        self.wrong(1, 0, "item a 0 1", "", "hand b")
        self.wrong(1, 0, "item a 0 1", "")
        self.wrong(2, 0, "item a 0 1", "hand b", "")
        self.wrong(3, 0, "item a 0 1", "hand b", "deed c 1", "")
        self.wrong(1, 0, "item a 0 1", " hand b")

    def test_order_of_the_lines(self):
        item, rule, hand, deed = "item a 0 1", "rule = 1 1", "hand b", "deed c 1"
        for first in (rule, hand, deed):
            self.wrong(0, 0, first, item, hand)
        self.wrong(1, 0, item, deed)
        self.wrong(2, 0, item, rule, item, hand)
        self.wrong(2, 0, item, rule, deed)
        for late in (item, rule):
            self.wrong(2, 0, item, hand, late)
            self.wrong(3, 0, item, hand, deed, late)
        self.assert_same(len(store_read("\n".join([item, item, rule, rule, hand, hand, deed, deed, hand]))[2]), 3)

    def test_first_words(self):
        for word in ("items", "Item", "", "hands", "start", "1", "itemx", "service"):
            self.wrong(0, 0, f"{word} a 0 1", "hand b")
            self.wrong(1, 0, "item a 0 1", f"{word} b")

    def test_lines_of_items(self):
        for word in NO_NAMES:
            if "\n" not in word:
                self.wrong(0, 1, f"item {word} 0 1", "hand b")
        for word in NO_INTEGERS:
            if "\n" not in word:
                self.wrong(0, 2, f"item a {word} 1", "hand b")
                self.wrong(1, 3, "item a 0 1", f"item a 0 {word}", "hand b")
        self.wrong(0, 1, "item")
        self.wrong(0, 2, "item a")
        self.wrong(0, 3, "item a 0")
        self.wrong(0, 4, "item a 0 1 2")
        self.wrong(0, 4, "item a 0 1 ")

    def test_lines_of_rules(self):
        for text, field in (("rule", 1), ("rule ", 1), ("rule 5", 1), ("rule item a", 1), ("rule = 1", 3),
                            ("rule = 1 x", 3), ("rule = 1 1 1", 4), ("rule  = 1 1", 1), ("rule + 1 1", 1),
                            ("rule not = 1 -0", 4), ("rule = item A 1", 3), ("rule and = 1 1 5", 5)):
            self.wrong(1, field, "item a 0 1", text, "hand b")
        deep = "rule " + "not " * 30
        self.wrong(1, 32, "item a 0 1", deep + "= 1 1", "hand b")
        self.assert_same(len(store_read("item a 0 1\nrule " + "not " * 29 + "= 1 1\nhand b")[1]), 1)

    def test_lines_of_hands_and_deeds(self):
        for word in NO_NAMES:
            if "\n" not in word:
                self.wrong(1, 1, "item a 0 1", f"hand {word}")
                self.wrong(2, 1, "item a 0 1", "hand b", f"deed {word} 1")
        for text in ("", "-", "1,", "01", "1;2", "-0", "x"):
            self.wrong(2, 2, "item a 0 1", "hand b", f"deed c {text}")
        self.wrong(1, 1, "item a 0 1", "hand")
        self.wrong(1, 2, "item a 0 1", "hand b c")
        self.wrong(2, 1, "item a 0 1", "hand b", "deed")
        self.wrong(2, 2, "item a 0 1", "hand b", "deed c")
        self.wrong(2, 3, "item a 0 1", "hand b", "deed c 1 2")

    def test_the_first_line_that_is_not_possible(self):
        self.wrong(1, 3, "item a 0 1", "item b 0 x", "rule 5", "deed")
        self.wrong(0, 3, "item a 0", "x")


if __name__ == "__main__":
    unittest.main()
