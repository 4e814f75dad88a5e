"""DOC.md [9], [43], [44], [45]: numbers papers, and whether any value is one."""

import random
import unittest
from itertools import product

from ownrights.balls import ball
from ownrights.errors import InvalidPaper
from ownrights.fairness import sure_tuples
from ownrights.numberchecker import lets_numbers
from ownrights.numberpapers import numbers_paper
from tests.direct import (
    ALONE, GRID, IDLE, NO_RIGHTS, NONE_GOOD, ONE_GOOD, QUIET, STORES, goods, good, grown_family, hands_of, keys_of, plus,
    safe, starts_of, step, zero,
)
from tests.helpers import ANYTHING, BOTH, START, TILL, StrictTest

SURE = ("sure", BOTH)
BAD = ("bad", (("put", "put"), ("take",)))


def ball_by_hand(store, hand, number):
    """The sums of all lists of at most so many deeds."""
    steps = [step(store, key) for key in keys_of(store) if key[0] == hand]
    return {plus(zero(store), *some) for many in range(number + 1) for some in product(steps, repeat=many)}


def is_family(store, thing):
    if type(thing) is not tuple or len(thing) != len(store[2]):
        return False
    rights = [right for right in thing if right != () and all(len(one) == len(store[0]) for one in right)]
    return len(rights) == len(thing) and all(list(right) == sorted(set(right)) for right in thing)


def due_of(store, start, numbers, paper):
    """The first (word, at) that applies to a paper with a right shape, by the definition, or None."""
    word, told = paper
    hands = hands_of(store)
    if word == "sure":
        if not is_family(store, told):
            return ("family", -1)
        for k, hand in enumerate(hands):
            if not ball_by_hand(store, hand, numbers[k]) <= set(told[k]):
                return ("ball", k)
        return None if safe(store, start, told) else ("safe", -1)
    if len(told) != len(hands):
        return ("many", -1)
    for k, hand in enumerate(hands):
        for i, deed in enumerate(told[k]):
            if (hand, deed) not in keys_of(store):
                return ("deed", (k, i))
    for k in range(len(hands)):
        if len(told[k]) > numbers[k]:
            return ("number", k)
    done = [step(store, (hand, deed)) for hand, deeds in zip(hands, told) for deed in deeds]
    return ("good", -1) if good(store, plus(start, *done)) else None


def cases(seed, many, most=3):
    chance = random.Random(seed)
    for store in [*STORES, GRID]:
        for _ in range(many):
            start = chance.choice([*goods(store), *starts_of(store)[:3]])
            yield store, start, tuple(chance.randint(0, most) for _ in store[2])


class NumbersPaperTest(StrictTest):
    def check(self, store, start, numbers):
        paper = numbers_paper(store, start, numbers)
        self.assertIs(type(paper), tuple)
        self.assertEqual(len(paper), 2)
        self.assert_same(due_of(store, start, numbers, paper), None, (store, start, numbers, paper))
        sure = numbers in sure_tuples(store, start, max(numbers))
        self.assert_same(paper[0], "sure" if sure else "bad")
        self.assert_same(lets_numbers(store, start, numbers, paper), sure)
        return paper[0]

    def test_ordinary_numbers(self):
        words = [self.check(*case) for case in cases(45, 40)]
        self.assertGreater(words.count("sure"), 60)
        self.assertGreater(words.count("bad"), 60)

    def test_all_numbers_of_small_stores(self):
        for store in (TILL, QUIET, ONE_GOOD):
            for start in starts_of(store):
                for numbers in product(range(5), repeat=2):
                    self.check(store, start, numbers)

    def test_small_ones(self):
        self.assert_same(numbers_paper(TILL, START, (1, 1)), SURE)
        self.assert_same(numbers_paper(numbers=(0, 0), start=START, store=TILL), ("sure", (((0,),), ((0,),))))
        self.assert_same(numbers_paper(TILL, (5,), (0, 0)), ("bad", ((), ())))
        self.assert_same(self.check(TILL, START, (6, 6)), "bad")
        self.assert_same(self.check(ALONE, (2,), (0,)), "sure")
        self.assert_same(self.check(ALONE, (0,), (6,)), "bad")
        self.assert_same(self.check(NONE_GOOD, (1,), (0, 0)), "bad")
        # Without deeds any number can surely be done, also with a deed that changes nothing.
        self.assert_same(numbers_paper(IDLE, (1,), (6, 6)), ("sure", (((0,),), ((0,),))))
        wait = (QUIET[0], (), (("ann", (("wait", (0, 0)),)), ("bob", ())))
        self.assert_same(numbers_paper(wait, (0, 0), (6, 6)), ("sure", (((0, 0),), ((0, 0),))))

    def test_lists_are_not_too_long(self):
        for store, start, numbers in cases(46, 15, most=6):
            word, told = numbers_paper(store, start, numbers)
            if word == "bad":
                for deeds, number in zip(told, numbers):
                    self.assertIs(type(deeds), tuple)
                    self.assertLessEqual(len(deeds), number)


class LetsNumbersTest(StrictTest):
    def check(self, store, start, numbers, paper):
        due = due_of(store, start, numbers, paper)
        if due is not None:
            self.assert_fails(InvalidPaper(*due), lets_numbers, store, start, numbers, paper)
        else:
            self.assert_same(lets_numbers(store, start, numbers, paper), paper[0] == "sure")
        return due if due is None else due[0]

    def fails(self, word, at, *papers, start=START, numbers=(1, 1), store=TILL):
        for paper in papers:
            self.assert_fails(InvalidPaper(word, at), lets_numbers, store, start, numbers, paper)

    def test_both_forms(self):
        self.assert_same(lets_numbers(TILL, START, (1, 1), SURE), True)
        self.assert_same(lets_numbers(thing=BAD, numbers=(2, 1), start=(4,), store=TILL), False)

    def test_greater_families(self):
        # Any safe family with the balls in it shows it, not only that of the balls.
        for store, start, numbers in cases(47, 15):
            word, family = numbers_paper(store, start, numbers)
            if word == "sure":
                wide = grown_family(store, start, family)
                self.assert_same(lets_numbers(store, start, numbers, ("sure", wide)), True)

    def test_all_lists_of_the_till(self):
        words = set()
        runs = [deeds for many in range(4) for deeds in product(("put", "take"), repeat=many)]
        for x in (-1, 0, 2, 4):
            for numbers in product(range(3), repeat=2):
                for told in product(runs, repeat=2):
                    words.add(self.check(TILL, (x,), numbers, ("bad", told)))
        self.assertEqual(words, {"deed", "number", "good", None})

    def test_all_families_of_the_till(self):
        words = set()
        rights = [tuple((x,) for x in range(low, high)) for low in range(-2, 1) for high in range(low, 3)]
        for x in (0, 2, 4):
            for numbers in product(range(3), repeat=2):
                for family in product(rights, repeat=2):
                    words.add(self.check(TILL, (x,), numbers, ("sure", family)))
        self.assertEqual(words, {"family", "ball", "safe", None})

    def test_papers_of_other_numbers(self):
        given = list(cases(48, 6))
        papers = sorted({numbers_paper(*case) for case in given}, key=repr)
        words = {self.check(*case, paper) for case in given for paper in papers}
        self.assertLessEqual({"family", "ball", "safe", "many", "deed", "good", None}, words)

    def test_shape(self):
        self.fails("shape", -1, *ANYTHING, "sure", ("sure",), ("bad",), (*SURE, ()), list(SURE), list(BAD), (*BAD, ()),
                   ("Sure", BOTH), ("bad", BOTH), ("sure", BAD[1]), ("sure ", BOTH), ("sure", list(BOTH)),
                   ("sure", (list(BOTH[0]), BOTH[1])), ("sure", (BOTH[0], ((-1,), [0]))), ("sure", (BOTH[0], ((-1,), (False,)))),
                   ("sure", (BOTH[0], ((-1,), ("0",)))), ("bad", list(BAD[1])), ("bad", (["put"], ())),
                   ("bad", (("put",), "take")), ("bad", (("put", "Put"), ())), ("bad", ((), ("put", ""))),
                   ("bad", ((), ("abcdefghi",))), ("bad", ("put", ())), start=(9,))
        for value in ANYTHING:
            self.fails("shape", -1, (value, BOTH), (value, BAD[1]))
            if type(value) is not tuple:
                self.fails("shape", -1, ("sure", value), ("bad", value), ("sure", (value, BOTH[1])), ("bad", (value, ())),
                           ("sure", (BOTH[0], (value,))))
            # None of the values is a name but those in tuples.
            self.fails("shape", -1, ("bad", ((), ("take", value))))

    def test_no_family(self):
        self.fails("family", -1, ("sure", ()), ("sure", BOTH[:1]), ("sure", (*BOTH, BOTH[0])), ("sure", (BOTH[0], ())),
                   ("sure", ((), BOTH[1])), ("sure", (BOTH[0][::-1], BOTH[1])), ("sure", (BOTH[0], ((0,), (0,)))),
                   ("sure", (BOTH[0], ((0, 0),))), ("sure", (BOTH[0], ((), (0,)))), ("sure", ((((-1,), (0,), (1, 0)), BOTH[1]))),
                   start=(9,), numbers=(9, 9))
        for value in NO_RIGHTS:
            if type(value) is tuple and all(type(one) is tuple and all(type(x) is int for x in one) for one in value):
                for family in ((value, BOTH[1]), (BOTH[0], value)):
                    self.check(TILL, START, (1, 1), ("sure", family))

    def test_the_order(self):
        # The first right that lacks a sum, before the family is looked at as a whole.
        self.fails("ball", 0, ("sure", (((0,),), ((0,),))), ("sure", (((-1,), (0,), (2,)), ((0,),))), start=(9,))
        self.fails("ball", 1, ("sure", (BOTH[0], ((0,), (1,)))), start=(9,))
        self.fails("safe", -1, SURE, start=(0,))
        self.fails("safe", -1, ("sure", (BOTH[0], ((-2,), (-1,), (0,), (9,)))))
        # The deeds of all lists come before the numbers, these before the state.
        self.fails("many", -1, ("bad", ()), ("bad", (("x",),)), ("bad", ((), (), ())), ("bad", (("x",),) * 3))
        self.fails("deed", (0, 1), ("bad", (("put", "x", "y"), ("z",))))
        self.fails("deed", (1, 0), ("bad", (("put",) * 9, ("put",))))
        self.fails("deed", (1, 2), ("bad", (("put",) * 9, ("take", "take", "put"))))
        self.fails("number", 0, ("bad", (("put",) * 2, ("take",) * 9)), ("bad", (("put",) * 2, ())))
        self.fails("number", 1, ("bad", (("put",), ("take",) * 2)))
        self.fails("good", -1, ("bad", (("put",), ("take",))), ("bad", ((), ())))

    def test_a_hand_without_deeds(self):
        self.fails("deed", (1, 0), ("bad", ((), ("take",))), store=IDLE, start=(9,))
        self.assert_same(lets_numbers(IDLE, (9,), (0, 6), ("bad", ((), ()))), False)
        self.assert_same(lets_numbers(IDLE, (1,), (6, 6), ("sure", (((0,), (1,)), ((-1,), (0,), (1,))))), True)
        self.assert_same(ball(IDLE, "bob", 6), ((0,),))


if __name__ == "__main__":
    unittest.main()
