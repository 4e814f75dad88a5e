"""DOC.md [5], [9], [33], [37], [38]: family papers, and whether any value is one."""

import unittest

from ownrights.errors import InvalidFamily, InvalidPaper
from ownrights.familychecker import lets_family
from ownrights.familypapers import family_paper
from ownrights.families import grown, is_greatest, is_safe
from tests.direct import (
    ALONE, IDLE, NO_RIGHTS, NONE_GOOD, family_cases, good, goods, minus, plus, safe, zero,
)
from tests.helpers import ANYTHING, BOTH, START, TILL, StrictTest

WIDE = (((-1,), (0,), (1,), (2,)), ((-1,), (0,)))
ROWS = ((((3,), ((3,), (0,))),), (((1,), ((2,), (1,))), ((2,), ((1,), (2,))), ((3,), ((0,), (3,)))))
GREATEST = ("greatest", ROWS)
UNSAFE = ("unsafe", ((1,), (0,)))
# Neither a sum of the rights above nor a choice.
NO_CHOICES = [value for value in ANYTHING if value not in ((0,), ((0,), (0,)))]


def candidates_by_hand(store, start, family, at):
    """Try all sums that lead with start and the least sums of the others to a good state."""
    leasts = [zero(store), *[right[0] for place, right in enumerate(family) if place != at]]
    sums = {minus(minus(state, start), plus(*leasts)) for state in goods(store)}
    return sorted(sums - set(family[at]))


class PapersTest(StrictTest):
    def check_choice(self, family, choice):
        self.assertIs(type(choice), tuple)
        self.assertEqual(len(choice), len(family))
        for one, right in zip(choice, family):
            self.assertIn(one, right)

    def check_rows(self, store, start, family, rows):
        self.assertEqual(len(rows), len(family))
        for at, row in enumerate(rows):
            self.assert_same([x for x, _ in row], candidates_by_hand(store, start, family, at))
            for x, choice in row:
                self.check_choice([*family[:at], (x,), *family[at + 1:]], choice)
                self.assertFalse(good(store, plus(start, *choice)))

    def check(self, store, start, family):
        paper = family_paper(store, start, family)
        self.assertIs(type(paper), tuple)
        word, *told = paper
        if not safe(store, start, family):
            self.assert_same((word, len(told)), ("unsafe", 1))
            self.check_choice(family, told[0])
            self.assertFalse(good(store, plus(start, *told[0])))
        elif is_greatest(store, start, family):
            self.assert_same((word, len(told)), ("greatest", 1))
            self.check_rows(store, start, family, told[0])
        else:
            self.assert_same((word, len(told)), ("grows", 2))
            k, x = told
            self.assertNotIn(x, family[k])
            self.assertTrue(safe(store, start, [*family[:k], (x,), *family[k + 1:]]))
        # The words of a paper are those of the text, and its numbers are integers.
        self.assert_same(lets_family(store, start, family, paper), word)
        return word

    def test_ordinary_families(self):
        words = [self.check(*case) for case in family_cases(37, 8)]
        for word in ("unsafe", "grows", "greatest"):
            self.assertGreater(words.count(word), 50)

    def test_small_ones(self):
        self.assert_same(family_paper(TILL, START, BOTH), ("grows", 0, (2,)))
        self.assert_same(lets_family(TILL, START, WIDE, family_paper(TILL, START, WIDE)), "greatest")
        self.assert_same(family_paper(family=(((1,),), ((0,),)), start=(4,), store=TILL), UNSAFE)
        self.assertEqual(self.check(NONE_GOOD, (1,), (((0,),), ((0,), (1,)))), "unsafe")
        self.assertEqual(self.check(ALONE, (2,), (((-2,), (0,), (1,)),)), "greatest")
        self.assertEqual(self.check(ALONE, (2,), (((-2,), (1,)),)), "grows")
        self.assertEqual(self.check(IDLE, (2,), (((-2,), (-1,), (0,), (1,)), ((0,),))), "greatest")
        self.assertEqual(self.check(TILL, (99,), BOTH), "unsafe")

    def test_rights_of_twelve_sums(self):
        store = ((("x", -6, 6), ("y", 0, 1)), (), (("ann", ()), ("bob", ()), ("eve", ())))
        right = tuple((x, y) for x in range(-3, 3) for y in (0, 1))
        narrow = tuple((x, 0) for x in range(0, 4))
        self.assertEqual(self.check(store, (0, 0), (right, narrow, ((0, 0),))), "grows")
        self.assertEqual(self.check(store, (0, 0), grown(store, (0, 0), (right, narrow, ((0, 0),)))), "greatest")
        self.assertEqual(self.check(store, (0, 0), (right, right, right)), "unsafe")

    def test_wrong_families(self):
        for value in ANYTHING + [list(BOTH), BOTH[:1]]:
            if type(value) is not tuple or len(value) != 2:
                self.assert_fails(InvalidFamily("shape", -1), family_paper, TILL, START, value)
                self.assert_fails(InvalidFamily("shape", -1), lets_family, TILL, START, value, UNSAFE)
        for value in ANYTHING + NO_RIGHTS:
            for family, at in (((value, None), 0), ((((0,),), value), 1)):
                self.assert_fails(InvalidFamily("right", at), family_paper, TILL, START, family)
                self.assert_fails(InvalidFamily("right", at), lets_family, TILL, START, family, value)


class LetsFamilyTest(StrictTest):
    def fails(self, word, at, *papers, start=START, family=BOTH, store=TILL):
        for paper in papers:
            self.assert_fails(InvalidPaper(word, at), lets_family, store, start, family, paper)

    def test_examples(self):
        self.assert_same([lets_family(TILL, START, BOTH, ("grows", 0, (2,))), lets_family(TILL, (4,), BOTH, UNSAFE)],
                         ["grows", "unsafe"])
        self.assert_same(lets_family(thing=GREATEST, family=WIDE, start=START, store=TILL), "greatest")

    def test_each_sum_and_each_choice(self):
        sums = [(x,) for x in range(-9, 9)]
        for family in (BOTH, WIDE):
            rests = ([(-1,), (0,), (1,), (2,)], [(-1,), (0,), (1,)] if family == BOTH else [(-1,), (0,)])
            for k in (0, 1):
                for x in sums:
                    if x in family[k]:
                        self.fails("sum", -1, ("grows", k, x), family=family)
                    elif x in rests[k]:
                        self.assert_same(lets_family(TILL, START, family, ("grows", k, x)), "grows")
                    else:
                        self.fails("bad", -1, ("grows", k, x), family=family)
        for start in range(-3, 9):
            for x in sums:
                for y in sums:
                    paper = ("unsafe", (x, y))
                    if x not in BOTH[0] or y not in BOTH[1]:
                        self.fails("choice", -1, paper, start=(start,))
                    elif 0 <= start + x[0] + y[0] <= 4:
                        self.fails("good", -1, paper, start=(start,))
                    else:
                        self.assert_same(lets_family(TILL, (start,), BOTH, paper), "unsafe")

    def test_shape(self):
        for start in (START, (4,)):
            self.fails("shape", -1, *ANYTHING, "unsafe", ("unsafe",), ("grows",), ("grows", 0), ("grows", 0, (2,), (2,)),
                       ("greatest",), (*GREATEST, ROWS), (*UNSAFE, UNSAFE[1]), list(UNSAFE), ["grows", 0, (2,)],
                       ("Unsafe", UNSAFE[1]), ("unsafe ", UNSAFE[1]), ("grows", -1, (2,)), ("grow", 0, (2,)),
                       ("greatest", 0, (2,)), ("grows", ROWS), ("unsafe", 0, (2,)), start=start)
            for value in ANYTHING:
                self.fails("shape", -1, (value, UNSAFE[1]), (value, 0, (2,)), (value, ROWS), start=start)
                if type(value) is not tuple:
                    self.fails("shape", -1, ("unsafe", value), ("greatest", value), ("greatest", (value,)), start=start)
                if type(value) is not int or value < 0:
                    self.fails("shape", -1, ("grows", value, (2,)), start=start)
                if type(value) is not tuple or len(value) != 2:
                    self.fails("shape", -1, ("greatest", ((value,),)), ("greatest", (ROWS[0], (value, *ROWS[1]))),
                               ("greatest", ((), (*ROWS[1], value))), start=start)
        self.fails("shape", -1, ("greatest", list(ROWS)), ("greatest", (list(ROWS[0]), ROWS[1])),
                   ("greatest", (ROWS[0], (list(ROWS[1][0]), *ROWS[1][1:]))), ("unsafe", list(UNSAFE[1])), family=WIDE)

    def test_unsafe(self):
        for value in NO_CHOICES:
            if type(value) is tuple:
                self.fails("choice", -1, ("unsafe", value), start=(4,))
            self.fails("choice", -1, ("unsafe", (value, (0,))), ("unsafe", ((1,), value)), start=(4,))
        self.fails("choice", -1, ("unsafe", ()), ("unsafe", ((1,),)), ("unsafe", ((1,), (0,), (0,))), ("unsafe", ([1], (0,))),
                   ("unsafe", ((True,), (0,))), ("unsafe", ((1,), (False,))), ("unsafe", ((2,), (0,))), ("unsafe", ((0,), (1,))),
                   ("unsafe", ((1, 0), (0,))), start=(4,))
        self.fails("good", -1, ("unsafe", ((0,), (0,))), ("unsafe", ((1,), (-1,))), start=(4,))
        self.fails("good", -1, ("unsafe", ((0,), (0,))))

    def test_not_safe(self):
        for start in ((4,), (0,), (-9,)):
            self.fails("unsafe", -1, ("grows", 0, (2,)), ("grows", 9, None), ("grows", 0, (0,)), GREATEST, ("greatest", ()),
                       ("greatest", ((), ((0, 0),))), start=start)
        # "unsafe" does not ask for it: a choice shows it.
        self.fails("choice", -1, ("unsafe", ((9,), (9,))))

    def test_grows(self):
        self.fails("hand", -1, ("grows", 2, (2,)), ("grows", 10 ** 59, (2,)), ("grows", 3, None), ("grows", 2, (0,)))
        for value in ANYTHING:
            if value not in [(0,), (1,)]:
                self.fails("sum", -1, ("grows", 0, value), ("grows", 1, value))
        self.fails("sum", -1, *[("grows", 0, x) for x in ((-1,), (0,), (1,), (True,), (2, 0), [2], 2, ("2",), ((2,),))])
        self.fails("bad", -1, *[("grows", 0, (x,)) for x in (-2, 3, 10 ** 59)])
        self.fails("bad", -1, *[("grows", 1, (x,)) for x in (-2, 2)])
        self.fails("bad", -1, ("grows", 1, (1,)), family=WIDE)

    def test_greatest_of_many(self):
        self.fails("many", -1, ("greatest", ()), ("greatest", ROWS[:1]), ("greatest", (*ROWS, ())),
                   ("greatest", (((5, 5),),) * 3), family=WIDE)
        self.fails("many", 0, ("greatest", ((), ())), ("greatest", (ROWS[1], ROWS[0])), ("greatest", (ROWS[0] * 2, ROWS[1])),
                   ("greatest", (((5, 5),) * 2, ())), family=WIDE)
        self.fails("many", 1, ("greatest", (ROWS[0], ())), ("greatest", (ROWS[0], ROWS[1][:2])), ("greatest", (ROWS[0],) * 2),
                   ("greatest", (ROWS[0], (*ROWS[1], ROWS[1][2]))), family=WIDE)

    def rows(self, at, place, pair):
        """The rows of WIDE with another pair at a place."""
        rows = [list(row) for row in ROWS]
        rows[at][place] = pair
        return ("greatest", tuple(map(tuple, rows)))

    def test_each_pair_of_greatest(self):
        self.assertTrue(is_safe(TILL, START, WIDE))
        for at, row in enumerate(ROWS):
            for place, (x, choice) in enumerate(row):
                where = (at, place)
                for value in ANYTHING:
                    if value != x:
                        self.fails("sum", where, self.rows(at, place, (value, choice)), family=WIDE)
                    self.fails("choice", where, self.rows(at, place, (x, value)), family=WIDE)
                    self.fails("choice", where, self.rows(at, place, (x, (value, value))), family=WIDE)
                for wrong in ((x[0] + 1,), (x[0] - 1,), (*x, 0), list(x), x[0], (True,), ()):
                    self.fails("sum", where, self.rows(at, place, (wrong, None)), family=WIDE)
                bad = {0: [(x, (2,)), ((1,), (0,)), (x,), (x, (0,), (0,)), ([3], (0,)), (x, (False,))],
                       1: [((-2,), x), ((1,), (0,)), (x,), ((0,), x, (0,)), ((2,), list(x)), ((True,), x)]}[at]
                for wrong in bad:
                    self.fails("choice", where, self.rows(at, place, (x, wrong)), family=WIDE)
                held = {0: (x, (-1,)), 1: ((-1,), x)}[at]
                self.fails("good", where, self.rows(at, place, (x, held)), family=WIDE)
        self.fails("choice", (1, 0), self.rows(1, 0, ((1,), ((2,), (True,)))), family=WIDE)

    def test_rows_exchanged(self):
        first, second, third = ROWS[1]
        self.fails("sum", (1, 0), ("greatest", (ROWS[0], (second, first, third))), family=WIDE)
        self.fails("sum", (1, 1), ("greatest", (ROWS[0], (first, third, second))), ("greatest", (ROWS[0], (first,) * 3)),
                   family=WIDE)

    def test_a_family_that_is_not_the_greatest(self):
        # The candidate that could be added has no choice that leads out.
        rows = ((((2,), ((2,), (0,))), ((3,), ((3,), (0,)))), ROWS[1])
        self.fails("good", (0, 0), ("greatest", rows))

    def test_all_checks_of_a_row_come_before_the_next_one(self):
        self.fails("good", (0, 0), ("greatest", ((((3,), ((3,), (-1,))),), ())), family=WIDE)
        self.fails("choice", (1, 0), ("greatest", (ROWS[0], (((1,), ()), (5, 5), (5, 5)))), family=WIDE)
        self.fails("good", (1, 0), ("greatest", (ROWS[0], (((1,), ((0,), (1,))), (5, 5), (5, 5)))), family=WIDE)

    def test_of_one_form(self):
        for store, start, family in family_cases(37, 2):
            word = family_paper(store, start, family)[0]
            for other in ("unsafe", "grows", "greatest"):
                if other == word:
                    continue
                due = {"unsafe": ("choice", -1)}.get(other, ("unsafe", -1) if word == "unsafe" else None)
                paper = {"unsafe": ("unsafe", ()), "grows": ("grows", 0, zero(store)), "greatest": ("greatest", ())}[other]
                if due:
                    self.fails(*due, paper, store=store, start=start, family=family)


if __name__ == "__main__":
    unittest.main()
