"""DOC.md [7] (U5), [9], [26] to [30]: run papers, and whether any value is one."""

import random
import unittest
from itertools import product

from ownrights.apart import may_go_apart, shortest_harm
from ownrights.clashing import free_sets
from ownrights.errors import InvalidPaper, UnknownDeed
from ownrights.runchecker import lets_runs
from ownrights.runpapers import run_paper
from tests.direct import (
    ALL_STORES, GRID, IDLE, NO_RIGHTS, ONE_GOOD, STORES, good, goods, hands_of, keys_of, plus, step, subsets, zero,
)
from tests.helpers import ANYTHING, TILL, StrictTest
from tests.test_apart import sums_by_hand

PUT, TAKE, BOB = ALL = (("ann", "put"), ("ann", "take"), ("bob", "take"))
GOOD = ("good", (((0,), (1,)), ((0,),)))
BAD = ("bad", (("take",), ("take",)))


def is_right(store, right):
    return right != () and all(len(one) == len(store[0]) for one in right) and list(right) == sorted(set(right))


def due_of_good(store, state, keys, family):
    for h, (hand, deeds) in enumerate(store[2]):
        if not is_right(store, family[h]) or zero(store) not in family[h]:
            return ("right", h)
        for k, one in enumerate(family[h]):
            for d, (deed, there) in enumerate(deeds):
                behind = plus(one, there)
                if (hand, deed) in keys and good(store, plus(state, behind)) and behind not in family[h]:
                    return ("leaves", (h, k, d))
    for choice in product(*[range(len(right)) for right in family]):
        if not good(store, plus(state, *[right[at] for right, at in zip(family, choice)])):
            return ("unsafe", choice)
    return None


def due_of(store, state, keys, paper):
    """The first (word, at) that applies to a paper with a right shape, by the definition, or None."""
    word, told = paper
    if len(told) != len(store[2]):
        return ("many", -1)
    if word == "good":
        return due_of_good(store, state, keys, told)
    total = state
    for h, hand in enumerate(hands_of(store)):
        own = state
        for k, deed in enumerate(told[h]):
            if (hand, deed) not in keys_of(store) or (hand, deed) not in keys:
                return ("deed", (h, k))
            own = plus(own, step(store, (hand, deed)))
            if not good(store, own):
                return ("step", (h, k))
            total = plus(total, step(store, (hand, deed)))
    return ("whole", -1) if good(store, total) else None


def cases(seed, many):
    chance = random.Random(seed)
    for store in [*STORES, GRID]:
        for state in chance.sample(goods(store), min(many, len(goods(store)))):
            for _ in range(3):
                keys = tuple(chance.choices(keys_of(store), k=chance.randint(0, 5))) if keys_of(store) else ()
                yield store, state, keys


class RunPaperTest(StrictTest):
    def check(self, store, state, keys):
        paper = run_paper(store, state, keys)
        self.assertIs(type(paper), tuple)
        self.assertEqual(len(paper), 2)
        self.assertIs(type(paper[1]), tuple)
        self.assert_same(due_of(store, state, keys, paper), None, (store, state, keys, paper))
        self.assert_same(lets_runs(store, state, keys, paper), paper[0] == "good")
        # There is a paper of exactly one of the two forms.
        self.assert_same(paper[0] == "good", may_go_apart(store, state, keys))
        self.assert_same(shortest_harm(store, state, keys) is None, paper[0] == "good")
        return paper[0]

    def test_all_keys_of_small_stores(self):
        words = [self.check(store, state, keys) for store in STORES for state in goods(store)
                 for keys in subsets(keys_of(store))]
        self.assertGreater(words.count("good"), 100)
        self.assertGreater(words.count("bad"), 100)

    def test_keys_in_any_order_and_repeated(self):
        for case in cases(29, 6):
            self.check(*case)

    def test_small_ones(self):
        self.assert_same(run_paper(TILL, (1,), ALL), ("bad", (("take",), ("take",))))
        self.assert_same(run_paper(keys=(PUT,), state=(3,), store=TILL), GOOD)
        self.assert_same(run_paper(TILL, (3,), ()), ("good", (((0,),), ((0,),))))
        self.assert_same(run_paper(IDLE, (3,), ()), ("good", (((0,),), ((0,),))))
        self.assertEqual(self.check(ONE_GOOD, (2,), keys_of(ONE_GOOD)), "good")

    def test_unknown_deeds(self):
        for value in ANYTHING + ["ann", ("bob", "put"), ["ann", "put"]]:
            for keys in ((value,), (PUT, BOB, value, 5)):
                for paper in (GOOD, None, value):
                    for call in (lambda: run_paper(TILL, (1,), keys), lambda: lets_runs(TILL, (1,), keys, paper)):
                        with self.assertRaises(UnknownDeed) as caught:
                            call()
                        self.assertIs(caught.exception.deed, value)

    def test_what_follows(self):
        # Free keys may go apart from each good state, and keys that may from each good state are free.
        for store in STORES:
            free = free_sets(store)
            for keys in subsets(keys_of(store)):
                everywhere = all(run_paper(store, state, keys)[0] == "good" for state in goods(store))
                self.assertEqual(everywhere, any(set(keys) <= set(one) for one in free))
        # What may go apart may so with fewer keys.
        for store, state, keys in cases(30, 5):
            if run_paper(store, state, keys)[0] == "good":
                for fewer in subsets(sorted(set(keys))):
                    self.assertEqual(run_paper(store, state, fewer)[0], "good")


class LetsRunsTest(StrictTest):
    def check(self, store, state, keys, paper):
        due = due_of(store, state, keys, paper)
        if due is not None:
            self.assert_fails(InvalidPaper(*due), lets_runs, store, state, keys, paper)
        else:
            self.assert_same(lets_runs(store, state, keys, paper), paper[0] == "good")
        return due if due is None else due[0]

    def fails(self, word, at, *papers, state=(1,), keys=ALL, store=TILL):
        for paper in papers:
            self.assert_fails(InvalidPaper(word, at), lets_runs, store, state, keys, paper)

    def test_examples(self):
        self.assert_same([lets_runs(TILL, (1,), ALL, BAD), lets_runs(TILL, (3,), ALL[:1], GOOD)], [False, True])
        self.assert_same(lets_runs(thing=BAD, keys=ALL, state=(1,), store=TILL), False)

    def test_all_runs_of_the_till(self):
        runs = [run for many in range(4) for run in product(("put", "take"), repeat=many)]
        words = set()
        for state in goods(TILL):
            for keys in (ALL, ALL[1:], (PUT, BOB), ()):
                for told in product(runs, runs[::2]):
                    words.add(self.check(TILL, state, keys, ("bad", told)))
        self.assertEqual(words, {"deed", "step", "whole", None})

    def test_all_families_of_the_till(self):
        rights = [tuple((x,) for x in some) for some in subsets([-2, -1, 0, 1, 2])]
        words = set()
        for state in goods(TILL):
            for keys in (ALL, (PUT,), (BOB, TAKE)):
                for family in product(rights[::2], rights[1::3]):
                    words.add(self.check(TILL, state, keys, ("good", family)))
        self.assertEqual(words, {"right", "leaves", "unsafe", None})

    def test_families_of_other_stores(self):
        # Each right that the hands come to, with some sums less and some more.
        chance = random.Random(28)
        words = set()
        for store, state, keys in cases(31, 8):
            rights = [list(sums_by_hand(store, state, hand, keys)) for hand in hands_of(store)]
            pool = list(product(range(-2, 3), repeat=len(store[0])))
            for _ in range(8):
                family = []
                for right in rights:
                    fewer = [one for one in right if chance.random() < 0.95]
                    family.append(tuple(sorted({*fewer, *chance.sample(pool, chance.choice([0, 0, 1]))})))
                words.add(self.check(store, state, keys, ("good", tuple(family))))
        self.assertEqual(words, {"right", "leaves", "unsafe", None})

    def test_papers_of_other_states_and_keys(self):
        given = list(cases(32, 4))
        papers = sorted({run_paper(*case) for case in given}, key=repr)
        words = {self.check(*case, paper) for case in given for paper in papers[::2]}
        self.assertLessEqual({"many", "right", "leaves", "deed", "step", None}, words)

    def test_shape(self):
        self.fails("shape", -1, *ANYTHING, "good", ("good",), ("bad",), (*GOOD, ()), (*BAD, ()), list(GOOD), list(BAD),
                   ("Good", GOOD[1]), ("bad ", BAD[1]), ("bad", GOOD[1]), ("good", BAD[1]), ("good", list(GOOD[1])),
                   ("good", ([(0,)], ((0,),))), ("good", (((0,),), ([0],))), ("good", (((0,),), ((True,),))),
                   ("good", (((0,),), ((0, "0"),))), ("good", (((0,),), (0,))), ("bad", list(BAD[1])), ("bad", ("take", ())),
                   ("bad", (["take"], ())), ("bad", (("take", 1), ())), ("bad", ((), ("take", None))), ("bad", ((), (("take",),))))
        for value in ANYTHING:
            self.fails("shape", -1, (value, GOOD[1]), (value, BAD[1]))
            if type(value) is not tuple:
                self.fails("shape", -1, ("good", value), ("bad", value), ("good", (value, ((0,),))), ("bad", ((), value)),
                           ("good", (((0,),), (value,))))
            if type(value) is not str:
                self.fails("shape", -1, ("bad", (("take", value), ())), ("bad", ((), (value,))))

    def test_many(self):
        self.fails("many", -1, ("good", ()), ("good", ((),)), ("good", (((0,),),) * 3), ("bad", ()), ("bad", (("x",),)),
                   ("bad", ((),) * 3), ("bad", (("x",),) * 3))

    def test_rights(self):
        for value in NO_RIGHTS:
            if type(value) is tuple and all(type(one) is tuple and all(type(x) is int for x in one) for one in value):
                for family in ((value, ((0,),)), (((0,),), value)):
                    self.check(TILL, (3,), (), ("good", family))
        self.fails("right", 0, ("good", ((), ())), ("good", (((1,),), ())), ("good", (((0, 0),), ((0,),))),
                   ("good", (((1,), (0,)), ((0,),))), ("good", (((0,), (0,)), ((0,),))), keys=())
        self.fails("right", 1, ("good", (((0,),), ())), ("good", (((0,), (9,)), ((-1,), (1,)))), keys=())

    def test_leaves(self):
        # All of a hand come before those of the next one: the right, then each sum and each deed.
        self.fails("leaves", (0, 0, 0), ("good", (((0,),), ())), ("good", (((0,),), ((9,),))))
        self.fails("leaves", (0, 0, 1), ("good", (((0,), (1,), (2,), (3,)), ((9,),))))
        self.fails("leaves", (0, 1, 0), ("good", (((-1,), (0,)), ((0,),))))
        self.fails("right", 1, ("good", (((-1,), (0,), (1,), (2,), (3,)), ((1,),))))
        self.fails("leaves", (1, 0, 0), ("good", (((-1,), (0,), (1,), (2,), (3,)), ((0,),))))
        # A deed that is not among keys, or leads to a state that is not good, may leave.
        self.assert_same(lets_runs(TILL, (1,), (), ("good", (((0,),), ((0,),)))), True)
        self.assert_same(lets_runs(TILL, (0,), (BOB,), ("good", (((0,),), ((0,),)))), True)
        self.assert_same(lets_runs(TILL, (4,), (PUT,), ("good", (((0,),), ((0,),)))), True)

    def test_unsafe(self):
        ann, bob = ((-1,), (0,), (1,), (2,), (3,)), ((-1,), (0,))
        self.fails("unsafe", (0, 0), ("good", (ann, bob)))
        self.fails("unsafe", (1, 0), ("good", (((0,), (7,)), ((-1,), (0,)))), keys=())
        self.fails("unsafe", (2, 1), ("good", (((0,), (1,), (4,)), ((-1,), (0,)))), keys=())
        self.fails("unsafe", (0, 1), ("good", (((0,), (9,)), ((0,), (4,)))), keys=())

    def test_deeds_and_steps(self):
        for value in ("", "put ", "Take", "x" * 4000, "ann", "do\n"):
            self.fails("deed", (0, 0), ("bad", ((value, "take"), (value,))))
            self.fails("deed", (1, 0), ("bad", (("take",), (value,))))
        self.fails("deed", (1, 0), ("bad", (("take",), ("put",))))
        self.fails("deed", (0, 1), ("bad", (("take", "put"), ("put",))), keys=ALL[1:])
        self.fails("step", (0, 1), ("bad", (("take", "take", "x"), ("x",))))
        self.fails("step", (1, 1), ("bad", (("take",), ("take", "take"))))
        self.fails("step", (0, 3), ("bad", (("put",) * 4, ("take",))))
        self.fails("whole", -1, ("bad", ((), ())), ("bad", (("put",), ("take",))), ("bad", (("put", "take", "put"), ())))
        self.assert_same(lets_runs(TILL, (1,), ALL, ("bad", (("put", "take", "take"), ("take",)))), False)

    def test_what_is_done_apart_can_be_done_in_any_order(self):
        chance = random.Random(33)
        for store in ALL_STORES:
            for state in chance.sample(goods(store), min(3, len(goods(store)))):
                word, told = run_paper(store, state, keys_of(store))
                if word == "bad":
                    rows = [(hand, deed) for hand, run in zip(hands_of(store), told) for deed in run]
                    ends = {plus(state, *[step(store, key) for key in chance.sample(rows, len(rows))]) for _ in range(9)}
                    self.assertEqual(len(ends), 1)
                    self.assertFalse(good(store, ends.pop()))


if __name__ == "__main__":
    unittest.main()
