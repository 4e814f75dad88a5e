"""DOC.md [9], [22], [23], [24]: asked papers, and whether any value is one."""

import unittest

from ownrights.askedchecker import lets_asked
from ownrights.askedpapers import asked_paper
from ownrights.clashing import clash_of, clashes, fewest_asked
from ownrights.errors import InvalidPaper
from tests.direct import ALL_STORES, GRID, IDLE, QUIET, STORES, THREE, goods, keys_of
from tests.helpers import ANYTHING, TILL, StrictTest, nested
from tests.test_clashing import pairs_by_hand

PUT, TAKE, BOB = ("ann", "put"), ("ann", "take"), ("bob", "take")
TREE = (TAKE, BOB, (1,), None, None)
PAPER = ((TAKE,), TREE)


def places(tree, path=()):
    """All places of a tree with their paths, a place before those in it."""
    found = [(path, tree)]
    if tree is not None:
        found += places(tree[3], (*path, 0)) + places(tree[4], (*path, 1))
    return found


def replaced(tree, path, other):
    if not path:
        return other
    at = 3 + path[0]
    return (*tree[:at], replaced(tree[at], path[1:], other), *tree[at + 1:])


class AskedPaperTest(StrictTest):
    def test_example(self):
        self.assert_same(asked_paper(TILL), PAPER)

    def check_tree(self, store, tree, many, asked=()):
        if len(asked) == many:
            return self.assert_same(tree, None)
        one, other, state, first, second = tree
        self.assertIn(one, keys_of(store))
        self.assertIn(other, keys_of(store))
        self.assertFalse({one, other} & set(asked))
        self.assertIn(tuple(sorted((one, other))), pairs_by_hand(store))
        self.assertIn(state, goods(store))
        self.check_tree(store, first, many, (*asked, one))
        self.check_tree(store, second, many, (*asked, other))

    def test_against_the_definition(self):
        for store in ALL_STORES:
            asked, tree = asked_paper(store=store)
            self.assertIn(asked, fewest_asked(store))
            self.check_tree(store, tree, len(asked))
            self.assert_same(lets_asked(store, (asked, tree)), len(asked))

    def test_sizes(self):
        self.assert_same([lets_asked(store, asked_paper(store)) for store in (IDLE, QUIET, TILL)], [0, 0, 1])
        self.assertGreater(lets_asked(GRID, asked_paper(GRID)), 3)


class LetsAskedTest(StrictTest):
    def fails(self, word, at, *papers, store=TILL):
        for paper in papers:
            self.assert_fails(InvalidPaper(word, at), lets_asked, store, paper)

    def test_examples(self):
        self.assert_same(lets_asked(TILL, PAPER), 1)
        self.fails("clash", (TAKE, BOB), ((), None))

    def test_by_name_and_the_other_ones(self):
        self.assert_same(lets_asked(thing=((BOB,), TREE), store=TILL), 1)
        self.assert_same(lets_asked(TILL, ((BOB,), (BOB, TAKE, (1,), None, None))), 1)
        self.assert_same(lets_asked(QUIET, ((), None)), 0)

    def test_any_value(self):
        self.fails("shape", -1, *ANYTHING)
        for value in ANYTHING:
            if value != ():
                self.fails("shape", -1, (value, TREE), (value, None))
            self.fails("shape", -1, ((value,), TREE), ((TAKE, ("ann", "take", value)), TREE))
            if not isinstance(value, str):
                self.fails("shape", -1, ((("ann", value),), TREE), ((TAKE, (value, "take")), TREE))
            if value is not None:
                self.fails("shape", -1, ((TAKE,), value), ((TAKE,), (TAKE, BOB, (1,), None, value)))
                self.fails("shape", -1, ((TAKE,), (TAKE, BOB, (1,), value, None)))
            self.fails("shape", -1, ((TAKE,), (value, BOB, (1,), None, None)), ((TAKE,), (TAKE, value, (1,), None, None)))
            if value not in [(), (0,), (1, 2), tuple(range(4999))]:
                self.fails("shape", -1, ((TAKE,), (TAKE, BOB, value, None, None)))
            if type(value) is not int:
                self.fails("shape", -1, ((TAKE,), (TAKE, BOB, (value,), None, None)))

    def test_shape(self):
        self.fails("shape", -1, (), PAPER[:1], (*PAPER, None), list(PAPER), ([TAKE], TREE), (TAKE, TREE), (TREE, (TAKE,)),
                   ((list(TAKE),), TREE), ((TAKE,), list(TREE)), ((TAKE,), TREE[:4]), ((TAKE,), (*TREE, None)),
                   ((TAKE,), ()), ((TAKE,), (TAKE, BOB, [1], None, None)), ((TAKE,), (TAKE, BOB, 1, None, None)),
                   ((TAKE,), (TREE, BOB, (1,), None, None)), ((TAKE,), (TAKE, BOB, (1,), (), None)))

    def test_shape_comes_first(self):
        wrong = (TAKE, TAKE, (), TREE, (TAKE, BOB, (True,), None, None))
        self.fails("shape", -1, ((BOB, TAKE), wrong), (((), ()), None), ((("x", "y"), ("x", "y")), 5))

    def test_trees_that_are_deep(self):
        deep = nested(None, 4000, lambda tree: (TAKE, BOB, (1,), tree, None))
        self.fails("pair", (0,), ((TAKE, BOB), deep))
        self.fails("end", (0,), ((TAKE,), deep))

    def test_asked(self):
        self.fails("asked", 0, ((("ann", "x"),), None), ((("x", "put"), TAKE), TREE), ((("bob", "put"),), None),
                   ((("", ""),), None), ((("put", "ann"),), TREE), ((("ann\n", "put"), ("x", "y")), TREE))
        self.fails("asked", 1, ((TAKE, TAKE), TREE), ((BOB, TAKE), TREE), ((BOB, PUT, TAKE), None), ((PUT, ("ann", "sing")), None))
        self.fails("asked", 2, ((PUT, TAKE, PUT), TREE), ((PUT, TAKE, ("eve", "take")), TREE))

    def test_clash(self):
        self.fails("clash", (TAKE, BOB), ((), TREE), ((PUT,), None), ((PUT,), TREE))
        for store in ALL_STORES:
            pairs = clashes(store)
            for key in keys_of(store):
                left = [pair for pair in pairs if key not in pair]
                if left:
                    self.fails("clash", left[0], ((key,), None), store=store)

    def test_end(self):
        self.fails("end", (), ((TAKE,), None), ((TAKE, BOB), None))
        self.fails("end", (), ((), TREE), store=QUIET)
        self.fails("end", (0,), ((TAKE,), (TAKE, BOB, (1,), TREE, TREE)), ((TAKE, BOB), TREE))
        self.fails("end", (1,), ((TAKE,), (TAKE, BOB, (1,), None, TREE)))

    def test_pair(self):
        self.fails("pair", (), *[((TAKE,), (one, other, (1,), None, None)) for one, other in
                                 ((TAKE, TAKE), (PUT, TAKE), (TAKE, ("bob", "put")), (("x", "y"), BOB), (BOB, BOB))])
        # More keys than needed can be asked, but behind one pair no other clash is left.
        self.fails("pair", (0,), ((TAKE, BOB), (TAKE, BOB, (1,), TREE, TREE)))
        self.fails("pair", (0,), ((TAKE, BOB), (TAKE, BOB, (1,), (BOB, TAKE, (1,), None, None), None)))

    def test_state(self):
        self.fails("state", (), *[((TAKE,), (TAKE, BOB, state, None, None)) for state in
                                  ((0,), (2,), (4,), (), (1, 1), (-1,), (5,), (10 ** 59,))])
        self.fails("state", (), ((TAKE,), (PUT, BOB, (1,), None, None)), ((BOB,), (BOB, PUT, (4,), None, None)))

    def test_the_order_of_the_checks_at_a_place(self):
        self.fails("end", (), ((), (TAKE, TAKE, (), None, None)), store=QUIET)
        self.fails("pair", (), ((TAKE,), (TAKE, TAKE, (), None, None)))
        self.fails("state", (), ((TAKE,), (TAKE, BOB, (), TREE, TREE)))
        self.fails("end", (0,), ((TAKE,), (TAKE, BOB, (1,), (TAKE, TAKE, (), None, None), TREE)))

    def test_each_place_of_a_tree(self):
        for store in (THREE, GRID):
            asked, tree = asked_paper(store)
            many = len(asked)
            for path, place in places(tree):
                def wrong(other):
                    return (asked, replaced(tree, path, other))
                if place is None:
                    self.fails("end", path, wrong((*tree[:3], None, None)), store=store)
                    continue
                self.fails("end", path, wrong(None), store=store)
                self.fails("pair", path, wrong((place[0], place[0], *place[2:])), store=store)
                self.fails("state", path, wrong((*place[:2], (99,) * len(store[0]), *place[3:])), store=store)
                if path:
                    self.fails("pair", path, wrong((*tree[:3], *place[3:])), store=store)
                # What stands at the place comes before what stands in it, the first tree before the second.
                if len(path) < many - 1:
                    self.fails("pair", (*path, 0), wrong((*place[:3], place[:3] + (None, None), None)), store=store)
                self.assert_same(lets_asked(store, wrong((place[1], place[0], place[2], place[4], place[3]))), many)

    def test_each_state_of_a_pair(self):
        for store in STORES:
            for one, other in clashes(store):
                for state in goods(store):
                    paper = ((one,), (one, other, state, None, None))
                    if fewest_asked(store)[0] == (one,) and state == clash_of(store, one, other):
                        self.assert_same(lets_asked(store, paper), 1)


if __name__ == "__main__":
    unittest.main()
