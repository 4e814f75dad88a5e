"""DOC.md [6], [9], [39], [42]: exchange papers, and whether any value is one."""

import unittest

from ownrights.errors import InvalidFamily, InvalidPaper
from ownrights.exchangechecker import lets_exchange
from ownrights.exchangepapers import exchange_paper
from tests.direct import ALONE, GRID, NO_RIGHTS, NONE_GOOD, all_sums, good, goods, minus, plus
from tests.helpers import ANYTHING, BOTH, TILL, StrictTest
from tests.test_exchanges import FAR, cases, may_by_hand

NEW = (((0,), (2,)), ((0,),))
HARMS = ("harms", (3,), ((2,), (0,)))
# Neither a sum of the rights above nor a choice.
NO_CHOICES = [value for value in ANYTHING if value not in ((0,), ((0,), (0,)))]


def candidates_by_hand(store, old, new):
    """Try all sums that lead with the least sums of old to a good state."""
    least = plus(*[right[0] for right in old])
    return sorted(c for c in {minus(state, least) for state in goods(store)}
                  if not all(good(store, plus(c, one)) for one in all_sums(new)))


class PapersTest(StrictTest):
    def check_choice(self, rights, choice):
        self.assertIs(type(choice), tuple)
        self.assertEqual(len(choice), len(rights))
        for one, right in zip(choice, rights):
            self.assertIn(one, right)

    def check(self, store, old, new):
        paper = exchange_paper(store, old, new)
        self.assertIs(type(paper), tuple)
        if may_by_hand(store, old, new):
            word, rows = paper
            self.assert_same(word, "keeps")
            self.assert_same([c for c, _ in rows], candidates_by_hand(store, old, new))
            for c, choice in rows:
                self.check_choice(old, choice)
                self.assertFalse(good(store, plus(c, *choice)))
        else:
            word, c, choice = paper
            self.assert_same(word, "harms")
            self.check_choice(new, choice)
            self.assertTrue(all(good(store, plus(c, one)) for one in all_sums(old)))
            self.assertFalse(good(store, plus(c, *choice)))
        self.assert_same(lets_exchange(store, old, new, paper), word == "keeps")
        return paper

    def test_ordinary_rights(self):
        papers = [self.check(*case) for case in cases(10)]
        words = [paper[0] for paper in papers]
        self.assertGreater(words.count("harms"), 100)
        self.assertGreater(words.count("keeps"), 100)
        self.assertGreater(len({len(paper[1]) for paper in papers if paper[0] == "keeps"}), 5)

    def test_small_ones(self):
        self.assert_same(exchange_paper(TILL, BOTH, NEW), HARMS)
        self.assert_same(exchange_paper(new=BOTH, old=BOTH, store=TILL),
                         ("keeps", (((4,), ((1,), (0,))), ((5,), ((0,), (0,))), ((6,), ((-1,), (0,))))))
        self.assert_same(exchange_paper(TILL, (((0,),),), (((0,),),)), ("keeps", ()))

    def test_no_surroundings(self):
        self.assert_same(self.check(NONE_GOOD, BOTH, NEW), ("keeps", ()))
        self.assertEqual(self.check(TILL, FAR, (((-5,), (5,)),))[0], "keeps")
        self.assertEqual(self.check(TILL, FAR, FAR)[0], "keeps")
        self.assertEqual(self.check(ALONE, (((0,), (1,), (2,)),), (((7,),),))[0], "keeps")

    def test_rights_of_twelve_sums(self):
        right = tuple((x, y) for x in range(4) for y in range(3))
        self.check(GRID, (right, ((0, 0), (1, 0))), (right, ((0, 0), (0, 1))))
        self.check(GRID, (right, ((0, 0), (1, 0))), (right[:5], ((-1, 0), (1, 0))))
        self.check(GRID, (right,) * 2, (right[:5],) * 2)

    def test_wrong_rights(self):
        for value in ANYTHING + [list(BOTH)]:
            if type(value) is not tuple or value == ():
                self.assert_fails(InvalidFamily("shape", 0), exchange_paper, TILL, value, value)
                self.assert_fails(InvalidFamily("shape", 0), lets_exchange, TILL, value, value, HARMS)
            if type(value) is not tuple or len(value) != 2:
                self.assert_fails(InvalidFamily("shape", 1), exchange_paper, TILL, BOTH, value)
                self.assert_fails(InvalidFamily("shape", 1), lets_exchange, TILL, BOTH, value, value)
        for value in ANYTHING + NO_RIGHTS:
            for rights, at in (((value, None), 0), ((((0,),), value), 1)):
                for new in (BOTH, rights, ()):
                    self.assert_fails(InvalidFamily("right", (0, at)), exchange_paper, TILL, rights, new)
                    self.assert_fails(InvalidFamily("right", (0, at)), lets_exchange, TILL, rights, new, value)
                self.assert_fails(InvalidFamily("right", (1, at)), exchange_paper, TILL, BOTH, rights)
                self.assert_fails(InvalidFamily("right", (1, at)), lets_exchange, TILL, BOTH, rights, HARMS)


class LetsExchangeTest(StrictTest):
    def fails(self, word, at, *papers, old=BOTH, new=NEW, store=TILL):
        for paper in papers:
            self.assert_fails(InvalidPaper(word, at), lets_exchange, store, old, new, paper)

    def test_example(self):
        self.assert_same(lets_exchange(TILL, BOTH, NEW, HARMS), False)
        self.assert_same(lets_exchange(thing=("keeps", ()), new=(((0,),),), old=(((0,),),), store=TILL), True)

    def test_shape(self):
        self.fails("shape", -1, *ANYTHING, "harms", ("harms",), ("keeps",), ("harms", (3,)), (*HARMS, (3,)), list(HARMS),
                   ("harms", ((2,), (0,))), ("keeps", (3,), ((2,), (0,))), ("Keeps", ()), ("keep", ()), ["keeps", ()],
                   ("keeps", (), ()), ("keeps", []), ("keeps", ([(3,), ()],)), ("keeps", (((3,),),)),
                   ("keeps", (((3,), (), ()),)), ("harm", (3,), ((2,), (0,))), ("harms", (3,), [(2,), (0,)]))
        for value in ANYTHING:
            self.fails("shape", -1, (value, (3,), HARMS[2]), (value, ()))
            if type(value) is not tuple:
                self.fails("shape", -1, ("harms", (3,), value), ("harms", None, value), ("keeps", value))
            if type(value) is not tuple or len(value) != 2:
                self.fails("shape", -1, ("keeps", (value,)), ("keeps", ((5, 5), value)))

    def test_harms(self):
        for value in NO_CHOICES:
            self.fails("sum", -1, ("harms", value, HARMS[2]), ("harms", value, ()))
            if type(value) is tuple:
                self.fails("choice", -1, ("harms", (3,), value), ("harms", (2,), value))
            self.fails("choice", -1, ("harms", (3,), (value, (0,))), ("harms", (3,), ((2,), value)))
        self.fails("sum", -1, *[("harms", c, HARMS[2]) for c in ((1,), (4,), (5,), (3, 0), [3], 3, (), ("3",), (10 ** 59,))])
        self.fails("sum", -1, ("harms", (True,), ((2,), (0,))), old=(((0,),), ((0,),)), new=(((3,),), ((0,),)))
        self.fails("choice", -1, *[("harms", (3,), choice) for choice in (
            (), ((2,),), ((2,), (0,), (0,)), ((1,), (0,)), ((-1,), (0,)), ((2,), (-1,)), ((2,), (False,)), ([2], (0,)))])
        self.fails("good", -1, ("harms", (3,), ((0,), (0,))), ("harms", (2,), ((2,), (0,))))

    def test_each_sum_and_each_choice(self):
        for c in range(-9, 9):
            for x in range(-4, 4):
                for y in range(-4, 4):
                    paper = ("harms", (c,), ((x,), (y,)))
                    if c not in (2, 3):
                        self.fails("sum", -1, paper)
                    elif x not in (0, 2) or y != 0:
                        self.fails("choice", -1, paper)
                    elif c + x + y <= 4:
                        self.fails("good", -1, paper)
                    else:
                        self.assert_same(lets_exchange(TILL, BOTH, NEW, paper), False)

    def test_keeps(self):
        rows = exchange_paper(TILL, BOTH, BOTH)[1]
        self.assertEqual(len(rows), 3)

        def changed(place, pair):
            return ("keeps", (*rows[:place], pair, *rows[place + 1:]))

        self.fails("many", -1, ("keeps", ()), ("keeps", rows[:2]), ("keeps", (*rows, rows[2])), ("keeps", ((5, 5),) * 4), new=BOTH)
        for place, (c, choice) in enumerate(rows):
            for value in NO_CHOICES:
                self.fails("sum", place, changed(place, (value, choice)), changed(place, (value, None)), new=BOTH)
                self.fails("choice", place, changed(place, (c, value)), changed(place, (c, (value, value))), new=BOTH)
            for wrong in ((c[0] + 1,), (c[0] - 1,), (*c, 0), list(c), c[0], (str(c[0]),), ()):
                self.fails("sum", place, changed(place, (wrong, choice)), changed(place, (wrong, None)), new=BOTH)
            for wrong in ((), ((0,),), ((0,), (0,), (0,)), ((2,), (0,)), ((0,), (1,)), ((0,), (False,)), [(0,), (0,)]):
                self.fails("choice", place, changed(place, (c, wrong)), new=BOTH)
            # From there on a sum that is less leads to a good state.
            for x, y in ((-1, -1), (0, -1), (1, -1), (-1, 0), (0, 0), (1, 0)):
                paper = changed(place, (c, ((x,), (y,))))
                if c[0] + x + y > 4:
                    self.assert_same(lets_exchange(TILL, BOTH, BOTH, paper), True)
                else:
                    self.fails("good", place, paper, new=BOTH)
        self.fails("sum", 0, ("keeps", rows[::-1]), ("keeps", (rows[1], rows[1], rows[2])), new=BOTH)
        self.fails("sum", 1, ("keeps", (rows[0], rows[2], rows[1])), ("keeps", (rows[0],) * 3), new=BOTH)

    def test_all_checks_of_a_pair_come_before_the_next_one(self):
        rows = exchange_paper(TILL, BOTH, BOTH)[1]
        self.fails("good", 0, ("keeps", (((4,), ((0,), (0,))), (5, 5), (5, 5))), new=BOTH)
        self.fails("choice", 1, ("keeps", (rows[0], ((5,), ()), (5, 5))), new=BOTH)
        self.fails("sum", 1, ("keeps", (rows[0], (5, ()), (5, 5))), new=BOTH)

    def test_true_is_not_one(self):
        old = (((0,), (1,)),)
        rows = exchange_paper(TILL, old, old)[1]
        self.assert_same(rows, (((4,), ((1,),)),))
        self.fails("choice", 0, ("keeps", (((4,), ((True,),)),)), old=old, new=old)
        store = ((("x", 0, 1),), (), TILL[2])
        self.assert_same(lets_exchange(store, old, old, ("keeps", (((1,), ((1,),)),))), True)
        self.fails("sum", 0, ("keeps", (((True,), ((1,),)),)), old=old, new=old, store=store)

    def test_a_paper_that_keeps_where_rights_harm(self):
        # The candidates are 4, 5, 6 and 3, which is one of the surroundings: no choice of old harms it.
        rows = (((3,), ((0,), (0,))), *exchange_paper(TILL, BOTH, BOTH)[1])
        self.fails("good", 0, ("keeps", rows))
        self.fails("many", -1, ("keeps", rows[1:]))
        for store, old, new in cases(2):
            if may_by_hand(store, old, new):
                for c in goods(store):
                    paper = ("harms", c, tuple(right[0] for right in new))
                    inside = all(good(store, plus(c, one)) for one in all_sums(old))
                    self.fails("good" if inside else "sum", -1, paper, store=store, old=old, new=new)


if __name__ == "__main__":
    unittest.main()
