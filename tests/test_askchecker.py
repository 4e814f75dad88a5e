"""DOC.md [9], [49], [50]: whether any value is a groups paper."""

import random
import unittest
from itertools import combinations, product

from ownrights.askchecker import lets_groups
from ownrights.askpapers import groups_paper
from ownrights.errors import InvalidPaper, UnknownDeed
from tests.direct import ALONE, IDLE, THREE, all_sums, good, goods, hands_of, keys_of, plus, rest, step
from tests.helpers import ANYTHING, BOTH, START, TILL, StrictTest
from tests.test_asking import BOB, PUT, TAKE, cases, group_of, groups_in, suffices_by_hand

# Of the till: ann cannot put by herself, both together can.
CASE = (TILL, START, BOTH, ((1,), (0,)), PUT)
PAPER = ((("ann", "bob"),), ((("ann",), (3,)),))
# Three hands, none of whose groups suffices.
WORSE = (THREE, (3,), (((0,),),) * 3, ((0,),) * 3, ("eve", "a"))
# Three hands, with two least groups.
FREE = ((("x", 0, 9), ("y", 0, 9)), (("<", ("item", "x"), 9),), (("ann", (("a", (1, 0)),)), ("bob", ()), ("eve", ())))


def is_group(store, thing):
    """Whether a tuple is a set of hands, perhaps ()."""
    return thing in [(), *groups_in(store)] and list(thing) == sorted(thing)


def is_bar(store, start, family, sums, key, group, c):
    behind = plus(*group_of(store, group, sums), step(store, key))
    if list(group) == hands_of(store):
        return c == () and not good(store, plus(start, behind))
    if len(c) != len(store[0]) or not all(type(x) is int for x in c):
        return False
    held = all(good(store, plus(c, one)) for one in all_sums(group_of(store, group, family)))
    return held and not good(store, plus(c, behind))


def due_of(store, start, family, sums, key, paper):
    """The first (word, at) that applies to a paper with a right shape, by the definition, or None."""
    groups, bars = paper
    for k, group in enumerate(groups):
        if not is_group(store, group) or (k > 0 and groups[k - 1] >= group):
            return ("group", k)
        others = [other for other in groups if other != group and is_group(store, other)]
        if not suffices_by_hand(store, start, family, sums, key, group) or any(set(one) <= set(group) for one in others):
            return ("enough", k)
    due = sorted(group for group in groups_in(store) if key[0] in group and
                 not any(set(one) <= set(group) for one in groups))
    if [group for group, _ in bars] != due:
        return ("bars", -1)
    for k, (group, c) in enumerate(bars):
        if not is_bar(store, start, family, sums, key, group, c):
            return ("bar", k)
    return None


class LetsGroupsTest(StrictTest):
    def check(self, case, paper):
        due = due_of(*case, paper)
        if due is not None:
            self.assert_fails(InvalidPaper(*due), lets_groups, *case, paper)
        else:
            self.assert_same(lets_groups(*case, paper), len(paper[0]))
        return due if due is None else due[0]

    def fails(self, word, at, *papers, case=CASE):
        for paper in papers:
            self.assert_fails(InvalidPaper(word, at), lets_groups, *case, paper)

    def test_what_groups_paper_returns(self):
        found = set()
        for case in cases(8):
            for key in keys_of(case[0]):
                paper = groups_paper(*case, key)
                self.assert_same(self.check((*case, key), paper), None)
                found.add(len(paper[0]))
        self.assertEqual(found, {0, 1, 2})

    def test_small_ones(self):
        self.assert_same(lets_groups(*CASE, PAPER), 1)
        store, start, family, sums, key = CASE
        self.assert_same(lets_groups(thing=PAPER, key=key, sums=sums, family=family, start=start, store=store), 1)
        self.assert_same(lets_groups(TILL, START, BOTH, ((0,), (0,)), PUT, ((("ann",),), ())), 1)
        self.assert_same(lets_groups(TILL, (0,), (((0,),), ((0,),)), ((0,), (0,)), TAKE,
                                     ((), ((("ann",), (0,)), (("ann", "bob"), ())))), 0)
        self.assert_same(lets_groups(ALONE, (2,), (((0,),),), ((0,),), ("ann", "b"), ((), ((("ann",), ()),))), 0)

    def test_papers_of_other_deeds_and_sums(self):
        words = set()
        for store, start, family, sums in cases(2):
            keys = keys_of(store)[-2:]
            papers = {groups_paper(store, start, family, sums, key) for key in keys}
            papers |= {groups_paper(store, start, family, one, keys[0]) for one in list(product(*family))[::3] if keys}
            for key in keys:
                words |= {self.check((store, start, family, sums, key), paper) for paper in sorted(papers)[:8]}
        self.assertEqual(words, {"enough", "bars", "bar", None})

    def test_all_groups_of_three_hands(self):
        # Each tuple of sets of hands, right or not, with the bars that are due then.
        chance = random.Random(50)
        sets = [(), *groups_in(THREE)]
        for case in cases(2):
            if len(case[0][2]) != 3:
                continue
            for key in keys_of(case[0])[:2]:
                bars = groups_paper(*case, key)[1]
                for many in (0, 1, 2):
                    for groups in combinations(sets, many):
                        self.check((*case, key), (groups, bars))
                        self.check((*case, key), (groups[::-1], bars))
                for _ in range(20):
                    self.check((*case, key), (tuple(chance.choices(sets, k=3)), bars))

    def test_each_sum_of_a_bar(self):
        for x in range(-3, 8):
            word = self.check(CASE, (PAPER[0], ((("ann",), (x,)),)))
            self.assertEqual(word, None if x == 3 else "bar")
        for store, start, family, sums in cases(1):
            for key in keys_of(store)[::2]:
                groups, bars = groups_paper(store, start, family, sums, key)
                for k, (group, _) in enumerate(bars):
                    around = rest(all_sums(group_of(store, group, family)), goods(store))
                    for c in [(), *around, *goods(store)[:3], (0,), (0, 0), (0, 0, 0)]:
                        self.check((store, start, family, sums, key), (groups, (*bars[:k], (group, c), *bars[k + 1:])))

    def test_shape(self):
        self.fails("shape", -1, *[value for value in ANYTHING if value != ((), ())], list(PAPER), PAPER[:1], (*PAPER, ()), (list(PAPER[0]), PAPER[1]),
                   (PAPER[0], list(PAPER[1])), ((["ann", "bob"],), PAPER[1]), (PAPER[0], ((["ann"], (3,)),)),
                   (PAPER[0], ((("ann",), [3]),)), (PAPER[0], ((("ann",), 3),)), (PAPER[0], (("ann", (3,)),)),
                   (PAPER[0], ((("ann",), (3,), ()),)), (("ann",), PAPER[1]))
        for value in ANYTHING:
            if type(value) is not tuple:
                self.fails("shape", -1, (value, PAPER[1]), (PAPER[0], value), ((PAPER[0][0], value), PAPER[1]),
                           ((value, PAPER[0][0]), PAPER[1]), (PAPER[0], ((value, (3,)),)), (PAPER[0], ((("ann",), value),)),
                           (PAPER[0], (PAPER[1][0], value)))

    def test_no_groups(self):
        for value in ANYTHING:
            if type(value) is tuple and value not in [(), ("ann",)]:
                self.fails("group", 0, ((value,), PAPER[1]), ((value, ("ann", "bob")), ()))
            if value not in ("", "ann"):
                self.fails("group", 0, (((value,),), ()), ((("ann", value),), PAPER[1]), (((value, "bob"),), PAPER[1]))
        self.fails("group", 0, ((("bob", "ann"),), PAPER[1]), ((("ann", "ann"),), PAPER[1]), ((("ann", "bob", "bob"),), ()),
                   ((("ann", "eve"),), PAPER[1]), (((("ann",), "bob"),), ()), ((("anna",),), ()))
        self.fails("group", 1, ((("ann", "bob"), ("ann", "bob")), PAPER[1]), ((("ann", "bob"), ("bob", "ann")), ()),
                   ((("ann", "bob"), ("x",)), ()), ((("ann", "bob"), (1,)), ()), ((("ann", "bob"), ("ann", True)), ()))

    def test_groups_that_do_not_suffice(self):
        self.fails("enough", 0, ((("ann",),), ()), ((("bob",),), PAPER[1]), (((),), ()), (((), ("ann", "bob")), PAPER[1]),
                   ((("ann",), ("ann", "bob")), ()))
        # A different one that it contains stands before or behind it, in any order.
        self.fails("enough", 0, ((("ann", "bob"), ("ann",)), PAPER[1]), ((("ann", "bob"), ("bob",)), PAPER[1]),
                   ((("ann", "bob"), ()), PAPER[1]), ((("ann", "bob"), ("ann", "bob"), ()), PAPER[1]))
        # An equal one is not different, and what is no set of hands is not one of them.
        self.fails("group", 1, ((("ann", "bob"), ("ann", "bob")), ()), ((("ann", "bob"), ("bob", "bob")), ()))
        still = (TILL, START, BOTH, ((0,), (0,)), PUT)
        self.fails("enough", 1, ((("ann",), ("ann", "bob")), ()), case=still)
        self.fails("enough", 0, ((("ann", "bob"), ("ann",)), ()), case=still)

    def test_bars_that_are_not_due(self):
        self.fails("bars", -1, (PAPER[0], ()), (PAPER[0], PAPER[1] * 2), ((), PAPER[1]), (PAPER[0], ((("bob",), (3,)),)),
                   (PAPER[0], (*PAPER[1], (("ann", "bob"), ()))), (PAPER[0], (((), (3,)), *PAPER[1])),
                   (PAPER[0], ((("ann", "ann"), (3,)),)), (PAPER[0], (((), ()),)), ((), ((("ann", "bob"), ()), PAPER[1][0])))
        for value in ANYTHING:
            if type(value) is tuple and value != ("ann",):
                self.fails("bars", -1, (PAPER[0], ((value, (3,)),)))
            self.fails("bars", -1, (PAPER[0], (((value,), (3,)),)))

    def test_bars_that_are_wrong(self):
        for value in ANYTHING:
            if type(value) is tuple and value != (3,):
                self.fails("bar", 0, (PAPER[0], ((("ann",), value),)))
            if type(value) is not int or value != 3:
                self.fails("bar", 0, (PAPER[0], ((("ann",), (value,)),)))
        self.fails("bar", 0, (PAPER[0], ((("ann",), (3, 0)),)), (PAPER[0], ((("ann",), ()),)))
        # For all hands the whole with the deed has to be bad, and there is no sum.
        self.fails("bar", 1, ((), (PAPER[1][0], (("ann", "bob"), ()))))
        empty = (TILL, (0,), (((0,),), ((0,),)), ((0,), (0,)), TAKE)
        self.fails("bar", 1, ((), ((("ann",), (0,)), (("ann", "bob"), (0,)))), case=empty)
        self.fails("bar", 0, ((), ((("ann",), (1,)), (("ann", "bob"), (0,)))), case=empty)

    def test_three_hands(self):
        paper = groups_paper(*WORSE)
        self.assert_same(lets_groups(*WORSE, paper), 0)
        for k in range(4):
            bars = list(paper[1])
            bars[k] = (bars[k][0], (9,))
            self.fails("bar", k, ((), tuple(bars)), case=WORSE)
            self.fails("bars", -1, ((), (*bars[:k], *bars[k + 1:])), ((), tuple(bars[::-1])), case=WORSE)

    def test_two_least_groups(self):
        # Nobody knows by herself that x stays below 9; with bob, or with eve, ann does.
        family = (((0, 0), (2, 0)), ((0, 0), (0, 1)), ((0, 0), (0, 1)))
        found = [(case, key) for case in cases(8) for key in keys_of(case[0]) if len(groups_paper(*case, key)[0]) == 2]
        self.assertTrue(found)
        for case, key in found:
            groups, bars = groups_paper(*case, key)
            self.assert_same(lets_groups(*case, key, (groups, bars)), 2)
            self.fails("group", 1, (groups[::-1], bars), case=(*case, key))
            self.fails("bars", -1, (groups[:1], bars), (groups[1:], bars), case=(*case, key))
        self.assert_same(lets_groups(FREE, (0, 0), family, ((0, 0),) * 3, ("ann", "a"),
                                     groups_paper(FREE, (0, 0), family, ((0, 0),) * 3, ("ann", "a"))), 1)

    def test_unknown_deeds_come_first(self):
        for value in ANYTHING + ["ann", ("bob", "put"), ["ann", "put"]]:
            for paper in (PAPER, None, value):
                with self.assertRaises(UnknownDeed) as caught:
                    lets_groups(*CASE[:4], value, paper)
                self.assertIs(caught.exception.deed, value)
        self.assert_same(keys_of(IDLE), [])
        self.assert_same(lets_groups(TILL, START, BOTH, ((0,), (0,)), BOB, ((("bob",),), ())), 1)


if __name__ == "__main__":
    unittest.main()
