"""DOC.md [6], [36]: all greatest pairs of sets of sums with a target."""

import unittest
from itertools import combinations

from ownrights.pairing import greatest_pairs
from tests.helpers import StrictTest

BIG = 10 ** 60 - 1


def plus(one, other):
    return tuple(x + y for x, y in zip(one, other))


def minus(one, other):
    return tuple(x - y for x, y in zip(one, other))


def rest(sums, target):
    """The rest of some sums, at least one of them."""
    return tuple(sorted(c for c in {minus(t, x) for t in target for x in sums}
                        if all(plus(c, x) in target for x in sums)))


def pairs_by_hand(target, one, other):
    """Look at all sets of sums that lead into the target with some sum of other."""
    candidates = sorted({minus(t, y) for t in target for y in other})
    found = []
    for many in range(1, len(candidates) + 1):
        for x in combinations(candidates, many):
            y = rest(x, target)
            if y and {*one} <= {*x} and {*other} <= {*y} and rest(y, target) == x:
                found.append((x, y))
    return tuple(sorted(found))


def line(*numbers):
    return tuple((number,) for number in numbers)


class PairsTest(StrictTest):
    def check(self, target, one, other):
        with self.subTest(target=target, one=one, other=other):
            due = pairs_by_hand(target, one, other)
            self.assert_same(greatest_pairs(target, one, other), due)
            return len(due)

    def test_example(self):
        due = ((line(0), line(0, 1, 2)), (line(0, 1), line(0, 1)), (line(0, 1, 2), line(0)))
        self.assert_same(greatest_pairs(line(0, 1, 2), line(0), line(0)), due)

    def test_against_all_pairs_of_sets(self):
        targets = [line(0), line(0, 1), line(-2, 0, 1), line(0, 1, 2, 3, 4), line(0, 1, 3, 4, 7), line(-3, -1, 0, 2, 5)]
        sets = [line(*some) for many in (1, 2) for some in combinations((-1, 0, 1, 3), many)]
        many = sum(self.check(target, one, other) for target in targets for one in sets for other in sets)
        self.assertGreater(many, 100)

    def test_two_items(self):
        target = tuple((x, y) for x in range(3) for y in range(2) if (x, y) != (2, 1))
        for one in (((0, 0),), ((0, 0), (1, 0)), ((-1, 1),)):
            for other in (((0, 0),), ((0, 0), (0, 1)), ((1, 0),)):
                self.check(target, one, other)

    def test_none(self):
        self.assert_same(greatest_pairs(line(0, 1), line(0), line(2)), ())
        self.assert_same(greatest_pairs(line(0, 1), line(0, 1), line(0, 1)), ())
        self.assert_same(greatest_pairs(line(0, 1, 3), line(0, 1), line(0, 1)), ())
        self.assert_same(greatest_pairs(line(0, 1, 3), line(0), line(0, 3, 4)), ())

    def test_one(self):
        self.assert_same(greatest_pairs(line(BIG), line(0), line(BIG)), ((line(0), line(BIG)),))
        self.assert_same(greatest_pairs(other=line(0, 1), one=line(0, 1), target=line(0, 1, 2)),
                         ((line(0, 1), line(0, 1)),))

    def test_twelve_sums(self):
        target = line(*range(12))
        due = tuple((line(*range(many)), line(*range(13 - many))) for many in range(1, 13))
        self.assert_same(greatest_pairs(target, line(0), line(0)), tuple(sorted(due)))
        scattered = line(0, 1, 3, 7, 12, 20, 30, 44, 65, 80, 96, 122)
        self.check(scattered, line(0), line(0))


if __name__ == "__main__":
    unittest.main()
