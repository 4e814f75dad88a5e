"""DOC.md [5], [7] (U6), [43], [44]: how many deeds all hands can surely do."""

import unittest
from itertools import product

from ownrights.balls import ball, sure_number
from ownrights.fairness import fairest, greatest_tuples, sure_tuples
from ownrights.families import grown
from tests.direct import (
    ALONE, GRID, IDLE, NONE_GOOD, ONE_GOOD, QUIET, STORES, THREE, goods, hands_of, keys_of, plus, safe, starts_of,
    step, zero,
)
from tests.helpers import START, TILL, StrictTest


def ball_by_hand(store, hand, n):
    """The sums of all lists of at most n deeds."""
    steps = [step(store, key) for key in keys_of(store) if key[0] == hand]
    return tuple(sorted({plus(zero(store), *some) for many in range(n + 1) for some in product(steps, repeat=many)}))


def balls_by_hand(store, numbers):
    return tuple(ball_by_hand(store, hand, n) for hand, n in zip(hands_of(store), numbers))


def sure_by_hand(store, start, most):
    balls = {(hand, n): ball_by_hand(store, hand, n) for hand in hands_of(store) for n in range(most + 1)}
    return tuple(numbers for numbers in product(range(most + 1), repeat=len(store[2]))
                 if safe(store, start, [balls[hand, n] for hand, n in zip(hands_of(store), numbers)]))


def fairest_by_hand(sure):
    """Compare the least numbers first, then the second least, and so on, then the tuples."""
    best = sure[0]
    for numbers in sure[1:]:
        if (sorted(numbers), numbers) > (sorted(best), best):
            best = numbers
    return best


class FairnessTest(StrictTest):
    def test_examples(self):
        self.assert_same([sure_tuples(TILL, START, 2), fairest(TILL, START, 6)],
                         [((0, 0), (0, 1), (0, 2), (1, 0), (1, 1), (2, 0)), ((1, 1), (((-1,), (0,), (1,)), ((-1,), (0,))))])
        self.assert_same(greatest_tuples(TILL, START, 2), ((0, 2), (1, 1), (2, 0)))

    def check(self, store, start, most):
        sure = sure_by_hand(store, start, most)
        self.assert_same(sure_tuples(store, start, most), sure)
        due = tuple(one for one in sure if not any(
            one != other and all(x <= y for x, y in zip(one, other)) for other in sure))
        self.assert_same(greatest_tuples(store, start, most), due)
        if not sure:
            return self.assert_same(fairest(store, start, most), None)
        numbers = fairest_by_hand(sure)
        self.assert_same(fairest(store, start, most), (numbers, balls_by_hand(store, numbers)))

    def test_against_a_look_at_all_tuples(self):
        for store in STORES:
            for start in starts_of(store):
                for most in (0, 1, 3):
                    self.check(store, start, most)

    def test_up_to_six(self):
        for store in (TILL, ONE_GOOD, ALONE, IDLE):
            for start in goods(store):
                self.check(store, start, 6)
        wide = ((("x", -6, 9),), (), THREE[2])
        for start in ((-6,), (0,), (1,), (3,)):
            self.check(wide, start, 6)

    def test_the_greatest_store(self):
        for start in ((2, 2), (3, 2), (3, 3), (0, 0), (5, 5), (6, 0)):
            self.check(GRID, start, 2)
        self.assert_same(sure_tuples(GRID, (3, 3), 6), sure_by_hand(GRID, (3, 3), 2))

    def test_the_start_is_not_good(self):
        for store, start in ((TILL, (5,)), (TILL, (-1,)), (TILL, (10 ** 59,)), (NONE_GOOD, (1,)), (ALONE, (1,))):
            self.assert_same([call(store=store, start=start, most=6) for call in (sure_tuples, greatest_tuples, fairest)],
                             [(), (), None])

    def test_deeds_that_change_nothing(self):
        self.assert_same(sure_tuples(IDLE, (1,), 1), ((0, 0), (0, 1), (1, 0), (1, 1)))
        self.assert_same(fairest(IDLE, (1,), 6), ((6, 6), (((0,),), ((0,),))))
        still = (TILL[0], (), (("ann", (("wait", (0,)),)), ("bob", (("take", (-1,)),))))
        self.assert_same(greatest_tuples(still, START, 6), ((6, 2),))

    def test_of_several_the_greatest(self):
        both = (TILL[0], (), (("ann", (("take", (-1,)),)), ("bob", (("take", (-1,)),))))
        self.assert_same(fairest(both, (3,), 6), ((2, 1), (((-2,), (-1,), (0,)), ((-1,), (0,)))))
        self.assert_same(fairest(both, (3,), 1), ((1, 1), (((-1,), (0,)), ((-1,), (0,)))))
        self.assert_same(fairest(both, (0,), 6), ((0, 0), (((0,),), ((0,),))))

    def test_the_second_least_counts(self):
        three = ((("x", 0, 5),), (), tuple((hand, (("take", (-1,)),)) for hand in ("ann", "bob", "eve")))
        self.assert_same([fairest(three, (x,), 6)[0] for x in range(6)],
                         [(0, 0, 0), (1, 0, 0), (1, 1, 0), (1, 1, 1), (2, 1, 1), (2, 2, 1)])

    def test_so_many_deeds_can_be_done_in_the_grown_family(self):
        for store in (TILL, QUIET, THREE):
            for start in goods(store):
                for numbers in greatest_tuples(store, start, 3):
                    family = tuple(ball(store, hand, n) for hand, n in zip(hands_of(store), numbers))
                    for hand, n, right in zip(hands_of(store), numbers, grown(store, start, family)):
                        self.assertGreaterEqual(sure_number(store, right, zero(store), hand, 3), n)


if __name__ == "__main__":
    unittest.main()
