"""DOC.md [3], [6], [31], [32]: sets of sums as objects."""

import unittest
from itertools import combinations

from ownrights.errors import InvalidSums
from ownrights.sums import Sums
from tests.helpers import ANYTHING, StrictTest, nested

BIG = 10 ** 60 - 1


def of(*numbers):
    """The Sums of sums of one integer each."""
    return Sums(tuple((number,) for number in numbers))


def plus(one, other):
    return tuple(x + y for x, y in zip(one, other))


def rest_by_hand(sums, target, around=12):
    """The rest, looked for among all sums around 0."""
    many = len(sums[0])
    grid = [()]
    for _ in range(many):
        grid = [(*row, x) for row in grid for x in range(-around, around + 1)]
    return tuple(c for c in grid if all(plus(c, x) in target for x in sums))


def worth_by_hand(sums, target, around=12):
    rest = rest_by_hand(sums, target, around)
    return rest_by_hand(rest, target, around) if rest else None


SMALL = [tuple((x,) for x in some) for many in range(4) for some in combinations((-2, -1, 0, 1, 3), many)]
TARGETS = [tuple((x,) for x in some) for some in ((), (0,), (-1, 0, 1), (0, 1, 3, 4), (-3, -1, 1, 2, 3), (0, 2, 4, 5))]
PLANE = [((0, 0),), ((0, 0), (1, 0)), ((0, 1), (1, 0)), ((-1, 0), (0, 0), (0, 2))]
PLANE_TARGET = tuple((x, y) for x in range(3) for y in range(3) if (x, y) != (1, 1))
A, B, EMPTY, WIDE = of(0, 2), of(0, 1, 2, 3, 5), of(), Sums(((0, 0), (1, 1)))


class MadeTest(StrictTest):
    def test_form(self):
        self.assert_same(Sums(()).form, ())
        self.assert_same(Sums(((5,),)).form, ((5,),))
        self.assert_same(Sums(((2,), (0,), (2,), (-1,), (0,))).form, ((-1,), (0,), (2,)))
        self.assert_same(Sums(sums=((1, -1), (0, BIG), (1, -2))).form, ((0, BIG), (1, -2), (1, -1)))

    def test_shape(self):
        wrong = [value for value in ANYTHING if value not in ((), ((0,), (0,)))]
        wrong += [((),), ((0,), ()), ((0,), [1]), ((0,), (True,)), ((False,),), ((0,), 1), ((0,), None), [(0,)],
                  ((0,), ("1",)), ((0, None),), (((0,),),), ((0,), (0, 0), (True,)), ((0,), (0, 0), ()), nested(1, 3),
                  A, (A,), ((A,),)]
        for value in wrong:
            with self.subTest(value=repr(value)[:60]):
                self.assert_fails(InvalidSums("shape", -1), Sums, value)

    def test_length(self):
        self.assert_fails(InvalidSums("length", 1), Sums, ((0,), (0, 0)))
        self.assert_fails(InvalidSums("length", 1), Sums, ((0, 0), (0,), (0, 0), (1,)))
        self.assert_fails(InvalidSums("length", 3), Sums, ((0,), (5,), (0,), (0, 0, 0), (0, 0)))

    def test_it_never_changes(self):
        a = of(0, 2)
        kept = a
        with self.assertRaises(AttributeError):
            a.form = ()
        a += of(1)
        self.assert_same([kept.form, a.form], [((0,), (2,)), ((1,), (3,))])
        for call in (lambda: kept | B, lambda: kept & B, lambda: kept - B, lambda: kept.shifted((1,)),
                     lambda: kept.rest_in(B), lambda: kept.worth_in(B), lambda: kept.within(B), lambda: kept + B):
            call()
            self.assert_same([kept.form, B.form], [((0,), (2,)), ((0,), (1,), (2,), (3,), (5,))])

    def test_len(self):
        self.assert_same([len(EMPTY), len(A), len(B), len(Sums(((1,), (1,), (1,))))], [0, 2, 5, 1])


class AnyValueTest(StrictTest):
    def test_in(self):
        self.assert_same([(0,) in A, (1,) in A, (2,) in A, (0,) in EMPTY, () in A, () in EMPTY], [True, False, True]
                         + [False] * 3)
        self.assert_same([(1, 1) in WIDE, (1,) in WIDE, (1, True) in WIDE, [1, 1] in WIDE], [True] + [False] * 3)
        self.assert_same([(False,) in A, (True,) in B, (1,) in B, [0] in A, 0 in A, A in A], [False] * 2 + [True]
                         + [False] * 3)
        for value in ANYTHING:
            if value != (0,):
                self.assert_same(value in A, False)

    def test_equal(self):
        self.assert_same([A == of(2, 0, 2), A == B, A == EMPTY, EMPTY == Sums(()), WIDE == A], [True, False, False]
                         + [True, False])
        self.assert_same([A != of(2, 0), A != B], [False, True])
        for value in [*ANYTHING, A.form]:
            self.assert_same([A == value, value == A, EMPTY == value, A != value], [False, False, False, True])


class OperatorsTest(StrictTest):
    def test_example(self):
        due = [((0,), (2,), (4,)), ((0,), (1,), (3,)), ((0,), (2,))]
        self.assert_same([(A + A).form, A.rest_in(B).form, A.worth_in(B).form], due)

    def test_against_a_direct_look(self):
        for one in SMALL + PLANE:
            for other in SMALL + PLANE:
                if one and other and len(one[0]) != len(other[0]):
                    continue
                with self.subTest(one=one, other=other):
                    a, b = Sums(one), Sums(other)
                    self.assert_same((a + b).form, tuple(sorted({plus(x, y) for x in one for y in other})))
                    self.assert_same((a | b).form, tuple(sorted({*one, *other})))
                    self.assert_same((a & b).form, tuple(sorted({*one} & {*other})))
                    self.assert_same((a - b).form, tuple(sorted({*one} - {*other})))
                    self.assert_same(a.within(b), {*one} <= {*other})
                    for made in (a + b, a | b, a & b, a - b):
                        self.assertIs(type(made), Sums)

    def test_big_integers(self):
        self.assert_same((of(BIG) + of(BIG, 1)).form, ((BIG + 1,), (2 * BIG,)))

    def test_lengths(self):
        calls = (lambda a, b: a + b, lambda a, b: a | b, lambda a, b: a & b, lambda a, b: a - b,
                 lambda a, b: a.within(b))
        for call in calls:
            self.assert_fails(InvalidSums("length", -1), call, A, WIDE)
            self.assert_fails(InvalidSums("length", -1), call, WIDE, of(0))
            for a, b in ((EMPTY, WIDE), (WIDE, EMPTY), (EMPTY, EMPTY), (EMPTY, A)):
                call(a, b)
        self.assert_same([EMPTY.within(WIDE), WIDE.within(EMPTY), EMPTY.within(EMPTY)], [True, False, True])
        self.assert_same([(EMPTY | WIDE).form, (WIDE - EMPTY).form, (WIDE + EMPTY).form], [WIDE.form, WIDE.form, ()])


class ShiftedTest(StrictTest):
    def test_shifted(self):
        self.assert_same(A.shifted((-3,)).form, ((-3,), (-1,)))
        self.assert_same(WIDE.shifted((BIG, -1)).form, ((BIG, -1), (BIG + 1, 0)))
        self.assert_same(EMPTY.shifted((1, 2, 3)).form, ())
        self.assertIs(type(A.shifted((0,))), Sums)

    def test_any_value(self):
        for value in ANYTHING + [(0, 0), (False,), [1], (1, None), A, ((1,),)]:
            if value != (0,) or type(value[0]) is bool:
                with self.subTest(value=repr(value)[:60]):
                    self.assert_fails(InvalidSums("sum", -1), A.shifted, value)
        for value in ((), (True,), [0], None, 5, "1", (0, False), ((0,),)):
            self.assert_fails(InvalidSums("sum", -1), EMPTY.shifted, value)
        self.assert_fails(InvalidSums("sum", -1), WIDE.shifted, (1,))
        self.assert_fails(InvalidSums("sum", -1), WIDE.shifted, (1, 2, 3))


class RestTest(StrictTest):
    def test_against_a_direct_look(self):
        for target in TARGETS:
            for sums in SMALL[1:]:
                with self.subTest(sums=sums, target=target):
                    self.look(sums, target)
        for sums in PLANE:
            self.look(sums, PLANE_TARGET)
            self.look(sums, PLANE_TARGET[:5])

    def look(self, sums, target):
        a, b = Sums(sums), Sums(target)
        self.assert_same(a.rest_in(b).form, rest_by_hand(sums, target))
        self.assertIs(type(a.rest_in(b)), Sums)
        worth = a.worth_in(b)
        self.assert_same(worth if worth is None else worth.form, worth_by_hand(sums, target))

    def test_none(self):
        self.assert_same([of(0, 9).rest_in(B).form, of(0, 9).worth_in(B)], [(), None])
        self.assert_same([A.rest_in(EMPTY).form, A.worth_in(EMPTY), WIDE.worth_in(EMPTY)], [(), None, None])

    def test_errors(self):
        for call in (lambda a, b: a.rest_in(b), lambda a, b: a.worth_in(b)):
            for target in (EMPTY, A, WIDE):
                self.assert_fails(InvalidSums("empty", -1), call, EMPTY, target)
            self.assert_fails(InvalidSums("length", -1), call, A, WIDE)
            self.assert_fails(InvalidSums("length", -1), call, WIDE, A)

    def test_consequences(self):
        for target in TARGETS[1:]:
            b = Sums(target)
            for sums in SMALL[1:]:
                a = Sums(sums)
                worth = a.worth_in(b)
                if worth is not None:
                    self.assertTrue(a.within(worth))
                    self.assertEqual(worth.rest_in(b), a.rest_in(b))
                    self.assertEqual(worth.worth_in(b), worth)
                    self.assertEqual(a.shifted((5,)).worth_in(b), worth.shifted((5,)))
                if len(a) == 1:
                    self.assertEqual(worth, a)
                for more in SMALL[1:]:
                    self.look_at_two(a, Sums(more), b)

    def look_at_two(self, a, d, b):
        self.assertTrue((a | d).rest_in(b).within(a.rest_in(b)))
        lesser, greater, both = a.worth_in(b), (a | d).worth_in(b), (a + d).worth_in(b)
        if lesser is not None and greater is not None:
            self.assertTrue(lesser.within(greater))
        if both is not None:
            self.assertTrue((lesser + d).within(both))
        self.assertEqual((a + d).within(b), d.within(a.rest_in(b)))
        self.assertEqual((a + d).within(b), a.within(d.rest_in(b)))


if __name__ == "__main__":
    unittest.main()
