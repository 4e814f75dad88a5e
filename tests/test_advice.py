"""DOC.md [9], [34], [43], [49], [52], [60], [62], [63]: what a live store tells of itself."""

import unittest
from itertools import product

from ownrights.errors import UnknownDeed, UnknownHand
from ownrights.services import Service
from tests.direct import ALONE, IDLE, QUIET, all_sums, goods, keys_of, minus, plus, rest, step, zero
from tests.helpers import ANYTHING, BOTH, START, TILL, StrictTest
from tests.model import some_event
from tests.test_giving import reach_by_hand
from tests.test_services import live, seen, till


def sure_by_hand(store, right, done, hand, most):
    """Look at all lists of deeds, longer and longer."""
    steps = [step(store, key) for key in keys_of(store) if key[0] == hand]
    for many in range(1, most + 1):
        if any(plus(done, *some) not in right for some in product(steps, repeat=many)):
            return many - 1
    return most


class AdviceTest(StrictTest):
    def same_as(self, service, due):
        store = service.store
        target = [minus(state, service.start) for state in goods(store)]
        open_deeds = tuple(key for key in keys_of(store) if due.behind(*key) in due.rights[key[0]])
        self.assert_same(service.open_deeds(), open_deeds)
        for key in keys_of(store):
            self.assert_same(key in service, key in open_deeds)
            self.assert_same(service.groups_for(*key), due.least_groups(*key))
        full = True
        for at, hand in enumerate(due.hands):
            right = service[hand]
            self.assert_same(right, due.family()[at])
            self.assert_same(service.copy_of(hand), due.copy_of(hand))
            others = [zero(store)], *[one for place, one in enumerate(due.family()) if place != at]
            room = rest(all_sums(others), target)
            full = full and room == right
            self.assert_same(service.room(hand), room)
            within = reach_by_hand(store, right, due.sum_of(hand), hand)
            self.assert_same(service.spare(hand), tuple(one for one in right if one not in within))
            for most in (0, 1, 3):
                self.assert_same(service.sure(hand, most=most), sure_by_hand(store, right, due.sum_of(hand), hand, most))
        self.assert_same(service.is_full(), full)
        self.assert_same(service.table(), due.table())
        return full

    def test_against_the_model(self):
        found = set()
        for service, due, chance in live(65, 3):
            for _ in range(25):
                event = some_event(chance, due)
                if due.reason(event) is None:
                    due.go(event)
                    service.go(event)
                    before, counts = seen(service), service.counts()
                    found.add(self.same_as(service, due))
                    self.assert_same([seen(service), service.counts()], [before, counts])
        self.assertEqual(found, {True, False})

    def test_small_ones(self):
        service = till()
        self.assert_same(service.open_deeds(), (("ann", "put"), ("ann", "take"), ("bob", "take")))
        self.assert_same([service.groups_for("ann", "put"), service.room("ann"), service.spare("ann"), service.sure("ann")],
                         [(("ann",),), ((-1,), (0,), (1,), (2,)), (), 1])
        self.assert_same([service.is_full(), service.tried(("meet", ("ann", "bob")))[0][0] == service.room("ann")], [False, True])
        service.do_all(("do", "ann", "put"), ("do", "bob", "take"))
        self.assert_same([service.open_deeds(), service.groups_for(deed="put", hand="ann"), service.room(hand="bob")],
                         [(("ann", "take"),), (("ann", "bob"),), ((-1,), (0,), (1,))])
        self.assert_same([service.spare(hand="bob"), service.sure("bob"), service.sure(hand="ann", most=0)], [((0,),), 0, 0])
        service.meet("ann", "bob")
        self.assert_same(service.is_full(), True)

    def test_sure_up_to_six(self):
        wide = ((("x", 0, 12),), (), (("ann", (("a", (1,)), ("b", (-1,)))), ("bob", ())))
        service = Service(wide, (6,), (tuple((x,) for x in range(-6, 7)), ((0,),)))
        self.assert_same([service.sure("ann"), service.sure("bob"), service.sure("ann", most=3), service.sure("ann", most=9)],
                         [6, 6, 3, 6])
        service = Service(wide, (6,), (tuple((x,) for x in range(-5, 7)), ((0,),)))
        self.assert_same([service.sure("ann"), service.sure("ann", most=6)], [5, 5])
        with self.assertRaises(TypeError):
            service.sure("ann", 6)

    def test_no_group_suffices(self):
        service = Service(TILL, (4,), (((0,),), ((0,),)))
        self.assert_same([service.groups_for("ann", "put"), service.groups_for("ann", "take")], [(), (("ann", "bob"),)])

    def test_edges(self):
        alone = Service(ALONE, (2,), (((-2,), (0,)),))
        self.assert_same([alone.room("ann"), alone.spare("ann"), alone.open_deeds(), alone.sure("ann")],
                         [((-2,), (0,), (1,)), ((-2,),), (), 0])
        idle = Service(IDLE, (1,), (((0,), (2,)), ((-1,), (0,))))
        self.assert_same([idle.spare("ann"), idle.sure("ann"), idle.open_deeds(), idle.is_full()], [((2,),), 6, (), False])
        quiet = Service(QUIET, (0, 0), (((0, 0),), ((0, 0),)))
        self.assert_same(quiet.open_deeds(), (("ann", "wait"),))

    def test_unknown_hands_and_deeds(self):
        service = till()
        before = seen(service)
        for value in [*ANYTHING, "put", "eve", ("ann", "put"), service]:
            calls = [lambda: service[value], lambda: service.copy_of(value), lambda: service.room(value), lambda: service.spare(value),
                     lambda: service.sure(value), lambda: service.sure(value, most=0), lambda: service.groups_for(value, "put"),
                     lambda: service.groups_for(value, value)]
            for call in calls:
                with self.assertRaises(UnknownHand) as caught:
                    call()
                self.assertIs(caught.exception.hand, value)
            with self.assertRaises(UnknownDeed) as caught:
                service.groups_for("bob", value)
            self.assert_same(caught.exception.deed[0], "bob")
            self.assertIs(caught.exception.deed[1], value)
            for thing in (value, ("ann", value), (value, "put"), ("ann", "put", value), [("ann", "put")], ["ann", "put"]):
                if thing != ("ann", "put"):
                    self.assert_same(thing in service, False)
        self.assert_same([seen(service), service.counts()], [before, (0, 0)])

    def test_it_is_not_iterated_over(self):
        with self.assertRaises(TypeError):
            iter(till())
        with self.assertRaises(TypeError):
            list(till())

    def test_tables(self):
        store = ((("x", 0, 999),), (), (("a", (("b", (1,)),)), ("longname", ())))
        right = tuple((x,) for x in range(900))
        service = Service(store, (0,), (right, ((0,),)))
        self.assert_same(service.table(), ["a        900   0   0 whole", "longname   1   0   0 whole"])
        service.do_all(*[("do", "a", "b")] * 12, ("giveup", "longname", ((0,),)))
        self.assert_same(service.table(), ["a        900  12   0 whole", "longname   1   0   1 -"])
        rows = service.table()
        rows.append("x")
        self.assert_same(len(service.table()), 2)
        self.assert_same([START in goods(TILL), len(BOTH)], [True, 2])

    def test_another_way_to_the_whole(self):
        # A copy can be the whole although not all was heard.
        service = till()
        service.do_all(("do", "ann", "put"), ("do", "ann", "take"))
        self.assert_same(service.table(), ["ann        3   2   0 whole", "bob        2   0   0 whole"])
        service.go(("do", "bob", "take"))
        self.assert_same(service.table(), ["ann        3   2   0 -", "bob        2   1   0 whole"])


if __name__ == "__main__":
    unittest.main()
