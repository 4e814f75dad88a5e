"""DOC.md [9], [46], [48]: meetings papers, and whether any value is one."""

import unittest
from itertools import product

from ownrights.errors import InvalidPaper, UnknownDeed
from ownrights.listchecker import lets_meetings
from ownrights.listpapers import meetings_paper
from ownrights.lists import fewest_meetings
from tests.direct import GRID, IDLE, NONE_GOOD, good, goods, hands_of, plus, step
from tests.helpers import ANYTHING, START, TILL, StrictTest
from tests.test_lists import BOB, PUT, SOME, TAKE, can_by_hand, lists, pieces, state_behind

DEEDS = (PUT, BOB) * 3
CUTS = (1, 3, 5)
CHOICES = ((0, 1), (0, 2), (0, 2))
PAPER = ("cuts", CUTS, CHOICES)


def harms(store, state, piece, choice):
    """Whether each hand can have done so many deeds of a piece, and the whole is not good then."""
    rows = [[key for key in piece if key[0] == hand] for hand in hands_of(store)]
    if len(choice) != len(rows) or any(many > len(row) for many, row in zip(choice, rows)):
        return False
    done = [step(store, key) for many, row in zip(choice, rows) for key in row[:many]]
    return not good(store, plus(state, *done))


def due_of(store, start, deeds, paper):
    """The first (word, at) that applies to a paper with a right shape, by the definition, or None."""
    if paper[0] == "never":
        if paper[1] > len(deeds):
            return ("number", -1)
        return ("good", -1) if good(store, state_behind(store, start, deeds[:paper[1]])) else None
    _, cuts, choices = paper
    if list(cuts) != sorted(set(cuts)) or not set(cuts) <= set(range(1, len(deeds))):
        return ("cuts", -1)
    if len(choices) != len(cuts):
        return ("many", -1)
    for k, piece in enumerate(pieces(start, store, deeds, cuts)):
        if not can_by_hand(store, *piece):
            return ("piece", k)
    for k, cut in enumerate(cuts):
        before = (0, *cuts)[k]
        if not harms(store, state_behind(store, start, deeds[:before]), deeds[before:cut + 1], choices[k]):
            return ("choice", k)
    return None


class PapersTest(StrictTest):
    def check(self, store, start, deeds):
        paper = meetings_paper(store, start, deeds)
        self.assert_same(due_of(store, start, deeds, paper), None, (store, start, deeds, paper))
        cuts = fewest_meetings(store, start, deeds)
        many = None if cuts is None else len(cuts)
        self.assert_same(lets_meetings(store, start, deeds, paper), many)
        if many is None:
            self.assert_same((paper[0], len(paper), type(paper[1])), ("never", 2, int))
        else:
            self.assert_same(paper[:2], ("cuts", cuts))
            self.assertEqual(len(paper), 3)
            self.assertIs(type(paper), tuple)
            for choice in paper[2]:
                self.assert_same([type(choice), *map(type, choice)], [tuple, *[int] * len(hands_of(store))])
        return many

    def test_ordinary_lists(self):
        found = [self.check(*case) for case in lists(51, 40)]
        for many in (None, 0, 1, 2, 3):
            self.assertIn(many, found)

    def test_all_lists_of_the_till(self):
        found = [self.check(TILL, (x,), deeds) for many in range(5) for deeds in product((PUT, TAKE, BOB), repeat=many)
                 for x in range(-1, 6)]
        self.assertEqual(set(found), {None, 0, 1, 2})

    def test_small_ones(self):
        self.assert_same(meetings_paper(TILL, START, SOME), ("cuts", (), ()))
        self.assert_same(meetings_paper(TILL, (0,), SOME[:2]), ("cuts", (1,), ((0, 1),)))
        self.assert_same(meetings_paper(TILL, (0,), SOME), ("never", 3))
        self.assert_same(meetings_paper(deeds=(), start=(9,), store=TILL), ("never", 0))
        self.assert_same(meetings_paper(TILL, (0,), DEEDS)[:2], ("cuts", CUTS))
        self.assert_same(self.check(IDLE, (1,), ()), 0)
        self.assert_same(self.check(NONE_GOOD, (1,), ()), None)
        self.assert_same(self.check(TILL, (4,), (PUT, BOB)), None)

    def test_unknown_deeds_come_first(self):
        for value in ANYTHING + ["ann", ("bob", "put"), ["ann", "put"]]:
            for deeds in ((value,), (PUT, PUT, PUT, value, 5)):
                for paper in (PAPER, value, ("never", -1)):
                    for call in (lambda: meetings_paper(TILL, (9,), deeds), lambda: lets_meetings(TILL, (9,), deeds, paper)):
                        with self.assertRaises(UnknownDeed) as caught:
                            call()
                        self.assertIs(caught.exception.deed, value)


class LetsMeetingsTest(StrictTest):
    def check(self, store, start, deeds, paper):
        due = due_of(store, start, deeds, paper)
        if due is not None:
            self.assert_fails(InvalidPaper(*due), lets_meetings, store, start, deeds, paper)
        else:
            self.assert_same(lets_meetings(store, start, deeds, paper), None if paper[0] == "never" else len(paper[1]))
        return due if due is None else due[0]

    def fails(self, word, at, *papers, start=(0,), deeds=DEEDS):
        for paper in papers:
            self.assert_fails(InvalidPaper(word, at), lets_meetings, TILL, start, deeds, paper)

    def test_papers_of_other_lists_and_starts(self):
        cases = list(lists(52, 9, longest=5))
        papers = sorted({("never", 3), *[meetings_paper(*case) for case in cases]}, key=repr)
        words = {self.check(*case, paper) for case in cases for paper in papers}
        self.assertEqual(words, {"number", "good", "cuts", "piece", "choice", None})

    def test_papers_with_parts_exchanged(self):
        words = set()
        for cuts in (CUTS, (1, 2, 5), (1, 3, 4), (2, 3, 5), (1, 3), (3, 5), (1,), (), (1, 2, 3, 4, 5), (5, 3, 1), (1, 1, 3),
                     (0, 1, 3), (1, 3, 6), (6,), (0,), (1, 3, 10 ** 59)):
            for choices in product(((0, 0), (0, 1), (1, 0), (0, 2), (2, 0), (0,), (0, 2, 0), ()), repeat=min(3, len(cuts))):
                words.add(self.check(TILL, (0,), DEEDS, ("cuts", cuts, choices)))
        self.assertEqual(words, {"cuts", "many", "piece", "choice", None})

    def test_each_number_of_never(self):
        for deeds in (DEEDS, SOME, ()):
            for x in range(-1, 6):
                for n in (*range(12), 10 ** 59):
                    self.check(TILL, (x,), deeds, ("never", n))

    def test_by_name(self):
        self.assert_same(lets_meetings(thing=PAPER, deeds=DEEDS, start=(0,), store=TILL), 3)
        self.assert_same(lets_meetings(TILL, (9,), (), ("never", 0)), None)
        self.assert_same(lets_meetings(TILL, (0,), (), ("cuts", (), ())), 0)

    def test_shape(self):
        self.fails("shape", -1, *ANYTHING, "cuts", ("cuts",), ("cuts", CUTS), (*PAPER, ()), list(PAPER), ("never",),
                   ("never", 0, 0), ["never", 0], ("Cuts", CUTS, CHOICES), ("never", CUTS, CHOICES), ("cuts", 0),
                   ("never", -1), ("never ", 0), ("cuts", list(CUTS), CHOICES), ("cuts", CUTS, list(CHOICES)),
                   ("cuts", CUTS, (*CHOICES[:2], [0, 1])), ("cuts", CUTS, ((-1, 0),) * 3), ("cuts", (-1, 3, 5), CHOICES),
                   ("cuts", (True, 3, 5), CHOICES), ("cuts", CUTS, ((0, True), *CHOICES[1:])))
        for value in ANYTHING:
            self.fails("shape", -1, (value, CUTS, CHOICES), (value, 0))
            if type(value) is not int or value < 0:
                self.fails("shape", -1, ("never", value), ("cuts", (value, 9), CHOICES), ("cuts", (9, value), CHOICES),
                           ("cuts", CUTS, ((0, value),)))
            if type(value) is not tuple:
                self.fails("shape", -1, ("cuts", value, CHOICES), ("cuts", CUTS, value), ("cuts", (0,), (value,)))

    def test_the_order(self):
        # A wrong cut comes before a wrong number of choices, this before the pieces, these before the choices.
        self.fails("cuts", -1, ("cuts", (4, 4), ()), ("cuts", (0,), ()), ("cuts", (6,), ()), ("cuts", (5, 3), ((9, 9),)))
        self.fails("many", -1, ("cuts", (5,), ()), ("cuts", (), ((0, 0),)), ("cuts", CUTS, CHOICES[:2]),
                   ("cuts", CUTS, (*CHOICES, (0, 0))))
        self.fails("piece", 0, ("cuts", (5,), ((9, 9),)), ("cuts", (), ()), ("cuts", (2, 4), ((9,), (9,))))
        self.fails("piece", 1, ("cuts", (1, 4), ((9, 9), (9, 9))), ("cuts", (1,), (CHOICES[0],)))
        self.fails("piece", 2, ("cuts", (1, 3), CHOICES[:2]))
        self.fails("choice", 0, ("cuts", CUTS, ((0, 0), (9, 9), (9, 9))), ("cuts", CUTS, ((0, 2), *CHOICES[1:])))
        self.fails("choice", 1, ("cuts", CUTS, (CHOICES[0], (2, 0), (9, 9))), ("cuts", CUTS, (CHOICES[0], (), ())))
        self.fails("choice", 2, ("cuts", CUTS, (*CHOICES[:2], (1, 2))), ("cuts", CUTS, (*CHOICES[:2], (0, 10 ** 59))))
        self.fails("number", -1, ("never", 7), ("never", 10 ** 59))
        self.fails("good", -1, *[("never", n) for n in range(7)])

    def test_cuts_that_are_not_as_late_as_possible(self):
        # No choice shows that the first piece could not be longer.
        for choice in product(range(3), repeat=2):
            self.fails("choice", 1, ("cuts", (1, 2, 3, 5), (CHOICES[0], choice, (0, 1), CHOICES[2])))
        self.assert_same(fewest_meetings(TILL, (0,), DEEDS), CUTS)

    def test_lists_without_deeds(self):
        for x in (-1, 0, 4, 5):
            for paper in (("cuts", (), ()), ("cuts", (0,), ((0, 0),)), ("cuts", (1,), ((0, 0),)), ("cuts", (), ((),)),
                          ("never", 0), ("never", 1)):
                self.check(TILL, (x,), (), paper)

    def test_two_items(self):
        for store, start, deeds in lists(53, 20):
            if store == GRID:
                self.check(store, start, deeds, meetings_paper(store, start, deeds))
                self.check(store, goods(store)[-1], deeds, meetings_paper(store, start, deeds))


if __name__ == "__main__":
    unittest.main()
