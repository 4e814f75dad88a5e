"""DOC.md [5] to [9], [49], [51] to [53], [55] to [59]: live stores, and what each event does."""

import random
import unittest

from ownrights.errors import InvalidEvent, InvalidFamily, InvalidPaper, InvalidSums
from ownrights.eventtexts import is_event
from ownrights.services import Service
from ownrights.storechecker import lets_store
from ownrights.storeclasses import Store
from tests import model
from tests.direct import ALONE, GRID, IDLE, NONE_GOOD, NO_RIGHTS, QUIET, STORES, THREE, grown_family, safe_families, zero
from tests.helpers import ANYTHING, BOTH, SHOP, START, TILL, StrictTest
from tests.model import Model, some_event, wild_event
from tests.test_eventtexts import EVENTS
from tests.test_storeclasses import error_of

# Each of the three hands may come to one sum more.
TRIO = (THREE, (1,), (((0,), (1,)), ((-1,), (0,)), ((0,), (2,))))
GIFT = ("give", "ann", "bob", ((0,), (1,)), ((-2,), (-1,), (0,)))


def till():
    return Service(TILL, START, BOTH)


def seen(service):
    """All that can be seen of a service but its counts."""
    copies = [service.copy_of(hand) for hand, _ in service.store[2]]
    return (service.log(), service.family, service.sums, service.whole, service.changes, service.letters, copies,
            service.table(), len(service), str(service), service.open_deeds())


def live(seed, many, stores=(*STORES, GRID)):
    """Services with models of them, at starts of all stores that have good states."""
    chance = random.Random(seed)
    for store in stores:
        for start, family in safe_families(store, chance, many, tries=6):
            if chance.random() < 0.4:
                family = grown_family(store, start, family)
            yield Service(store, start, family), Model(store, start, family), chance


class MadeTest(StrictTest):
    def test_parts(self):
        for service, due, _ in live(58, 3):
            self.assert_same([service.store, service.start, service.family], [due.store, due.start, due.family()])
            self.assert_same(service.sums, (zero(due.store),) * len(due.hands))
            self.assert_same([service.whole, service.changes, service.letters], [due.start, (0,) * len(due.hands), ()])
            self.assert_same([len(service), service.counts(), str(service)], [0, (0, 0), "-"])
        self.assert_same(Service(family=BOTH, start=START, store=TILL).family, BOTH)
        self.assert_same(Service.MOST, 40)
        self.assert_same(till().MOST, 40)

    def test_properties_are_not_assigned(self):
        service = till()
        for name in ("store", "start", "family", "sums", "whole", "changes", "letters"):
            with self.assertRaises(AttributeError):
                setattr(service, name, ())
        self.assert_same(seen(service), seen(till()))

    def test_wrong_stores_come_first(self):
        for value in [*ANYTHING, TILL[:2], list(TILL), (TILL[0], (None,), TILL[2]), ((), (), ()), (TILL[0], (), ()), Store(TILL[0], TILL[2])]:
            due = error_of(lets_store, value)
            self.assertIs(due[0], InvalidPaper)
            for start, family in ((START, BOTH), (value, value), ((9,), ())):
                self.assert_fails(InvalidPaper(**due[1]), Service, value, start, family)

    def test_wrong_starts_come_next(self):
        for value in [*ANYTHING, (0, 0), (2.0,), [2], ("2",), (True,), ((2,),)]:
            if value != (0,) or type(value[0]) is bool:
                for family in (BOTH, value, ()):
                    self.assert_fails(InvalidSums("start", -1), Service, TILL, value, family)
        self.assert_fails(InvalidSums("start", -1), Service, SHOP, (2,), None)

    def test_wrong_families(self):
        for value in [*ANYTHING, list(BOTH), BOTH[:1], (*BOTH, BOTH[0])]:
            if type(value) is not tuple or len(value) != 2:
                self.assert_fails(InvalidFamily("shape", -1), Service, TILL, START, value)
                self.assert_fails(InvalidFamily("shape", -1), Service, TILL, (9,), value)
        for value in ANYTHING + NO_RIGHTS:
            self.assert_fails(InvalidFamily("right", 0), Service, TILL, (9,), (value, None))
            self.assert_fails(InvalidFamily("right", 1), Service, TILL, (9,), (((1,),), value))

    def test_families_that_are_not_safe_and_rights_without_zero(self):
        self.assert_fails(InvalidFamily("unsafe", -1), Service, TILL, (9,), BOTH)
        self.assert_fails(InvalidFamily("unsafe", -1), Service, TILL, (0,), (((0,), (1,)), ((-1,),)))
        self.assert_fails(InvalidFamily("unsafe", -1), Service, NONE_GOOD, (1,), (((0,),), ((0,),)))
        self.assert_fails(InvalidFamily("zero", 0), Service, TILL, (2,), (((1,),), ((-1,),)))
        self.assert_fails(InvalidFamily("zero", 1), Service, TILL, (2,), (((0,),), ((-1,), (1,))))
        # A start that is not good, but a safe family: then zero is missing somewhere.
        self.assert_fails(InvalidFamily("zero", 0), Service, TILL, (5,), (((-1,),), ((0,),)))
        self.assert_fails(InvalidFamily("zero", 1), Service, TILL, (5,), (((0,),), ((-2,), (-1,))))
        self.assert_fails(InvalidFamily("zero", 0), Service, QUIET, (0, 0), (((1, 0),), ((0, 1),)))

    def test_edges(self):
        alone = Service(ALONE, (2,), (((-2,), (0,), (1,)),))
        self.assert_same([alone.do("ann", "a"), alone.whole, alone.meet("ann")], [(1,), (3,), (((-2,), (0,), (1,)),)])
        idle = Service(IDLE, (1,), (((0,), (2,)), ((-1,), (0,))))
        self.assert_same([idle.open_deeds(), idle.tell("bob"), idle.hear("ann", 0)], [(), 0, (1,)])
        self.assert_same(idle.meet("ann", "bob"), (((0,), (1,), (2,)), ((-1,), (0,))))
        self.assert_fails(InvalidEvent(("do", "ann", "put"), "deed"), idle.do, "ann", "put")


class EventsTest(StrictTest):
    def test_examples(self):
        service = till()
        found = [service.do("ann", "put"), service.ask("ann", "put"), service.family, service.whole]
        self.assert_same(found, [(1,), ("ann", "bob"), (((-2,), (-1,), (0,), (1,), (2,)), ((0,),)), (4,)])
        service = till()
        found = [service.give("ann", "bob", ((0,), (1,)), ((-2,), (-1,), (0,))), service.do("ann", "put"),
                 service.take("bob", 0)]
        self.assert_same(found, [0, (1,), ()])
        self.assert_same([service.table(), service.copy_of("bob"), service["bob"]],
                         [["ann        2   1   1 whole", "bob        3   0   1 -"], (2,), ((-2,), (-1,), (0,))])

    def same_as(self, service, due):
        self.assert_same([service.family, service.sums, service.whole], [due.family(), due.sums(), due.whole()])
        self.assert_same([service.changes, service.letters], [tuple(due.changes.values()), tuple(due.letters)])
        self.assert_same([service.copy_of(hand) for hand in due.hands], [due.copy_of(hand) for hand in due.hands])
        self.assert_same([service.table(), len(service)], [due.table(), due.events])

    def test_against_the_model(self):
        reasons = set()
        for service, due, chance in live(56, 6):
            events = []
            for _ in range(120):
                event = chance.choice([some_event] * 5 + [wild_event])(chance, due)
                reason = due.reason(event)
                reasons.add((event[0], reason))
                if reason is None:
                    events.append(event)
                    self.assert_same(service.go(event), due.go(event), event)
                else:
                    before = seen(service)
                    self.assert_fails(InvalidEvent(event, reason), service.go, event)
                    self.assert_same(seen(service), before)
                self.same_as(service, due)
            self.assert_same(service.log()[1:], tuple(events))
        for word, those in (("do", {"right", "deed"}), ("ask", {"unasked", "none", "deed"}), ("tell", {"hand"}),
                            ("hear", {"letter"}), ("take", {"letter", "void"}), ("exchange", {"sum", "harm"}),
                            ("give", {"heir", "sum", "harm"}), ("giveup", {"sum", "harm"})):
            self.assertLessEqual({(word, reason) for reason in {None, "full", *those}}, reasons)

    def test_each_method_does_its_event(self):
        # The same events, told by the methods, by go and by a call.
        for service, due, chance in live(59, 4):
            other, third = (Service(due.store, due.start, due.family()) for _ in range(2))
            for _ in range(40):
                event = some_event(chance, due)
                if due.reason(event) is not None:
                    continue
                word, *values = event
                method = getattr(other, {"giveup": "give_up"}.get(word, word))
                answer = method(*values[0]) if word == "meet" else method(*values)
                self.assert_same([service.go(event), third(event)], [answer, answer])
                due.go(event)
            self.assert_same([seen(other), seen(third)], [seen(service)] * 2)

    def test_arguments_by_name(self):
        service = till()
        self.assert_same([service.do(deed="put", hand="ann"), service.tell(hand="ann"), service.hear(n=0, hand="bob")],
                         [(1,), 0, (3,)])
        self.assert_same([service.ask(deed="put", hand="ann"), service.give_up(right=((2,),), hand="ann")],
                         [("ann", "bob"), ()])
        self.assert_same(service.exchange(rights=(((2,),), ((0,),)), hands=("ann", "bob")), ())
        self.assert_same(service.go(event=("tell", "bob")), 1)
        service = till()
        self.assert_same([service.give(gift=GIFT[4], right=GIFT[3], heir="bob", hand="ann"), service.take(n=0, hand="bob")],
                         [0, ()])
        self.assert_same(service["bob"], GIFT[4])

    def test_deeds(self):
        service = till()
        self.assert_same([service.do("ann", "put"), service.do("ann", "take"), service.do("ann", "take"), service.do("bob", "take")],
                         [(1,), (0,), (-1,), (-1,)])
        self.assert_same([service.sums, service.whole, service.family, service.changes],
                         [((-1,), (-1,)), (0,), BOTH, (0, 0)])
        # Of another one nothing is known without a letter or a meeting.
        self.assert_same([service.copy_of("ann"), service.copy_of("bob")], [(1,), (1,)])

    def test_letters_heard_late_again_and_never(self):
        service = till()
        self.assert_same([service.tell("ann"), service.do("ann", "put"), service.tell("ann"), service.do("ann", "take")],
                         [0, (1,), 1, (0,)])
        self.assert_same(service.letters, (("told", "ann", ((0, (0,)), (0, (0,)))), ("told", "ann", ((1, (1,)), (0, (0,))))))
        self.assert_same([service.hear("bob", 1), service.hear("bob", 0), service.hear("bob", 1)], [(3,), (3,), (3,)])
        self.assert_same(service.hear("ann", 1), (2,))
        self.assert_same([service.tell("bob"), service.letters[2]], [2, ("told", "bob", ((1, (1,)), (0, (0,))))])
        self.assert_same([service.tell("ann"), service.hear("bob", 3), service.changes], [3, (2,), (0, 0)])

    def test_a_copy_need_not_be_good(self):
        # Bob hears of what ann put, but not of what eve took away before.
        store = ((("x", 0, 2),), (), (("ann", (("put", (1,)),)), ("bob", ()), ("eve", (("take", (-1,)),))))
        service = Service(store, (2,), (((0,),), ((0,),), ((-1,), (0,))))
        self.assert_same([service.do("eve", "take"), service.give("eve", "ann", ((-1,),), ((0,), (1,)))], [(-1,), 0])
        self.assert_same([service.take("ann", 0), service.do("ann", "put"), service.tell("ann")], [(), (1,), 1])
        self.assert_same([service.hear("bob", 1), service.copy_of("eve"), service.whole], [(3,), (1,), (2,)])

    def test_meetings(self):
        service = till()
        service.do_all(("do", "ann", "put"), ("do", "bob", "take"))
        self.assert_same(service.meet("ann"), (((-1,), (0,), (1,)),))
        self.assert_same([service.copy_of("ann"), service.copy_of("bob"), service.changes], [(3,), (1,), (1, 0)])
        self.assert_same(service.meet("ann", "bob"), (((-1,), (0,), (1,), (2,)), ((-1,), (0,))))
        self.assert_same([service.copy_of("ann"), service.copy_of("bob"), service.changes], [(2,), (2,), (2, 1)])
        self.assert_same(service.meet("bob"), (((-1,), (0,)),))

    def test_all_hear_what_one_of_them_knew(self):
        service = Service(*TRIO)
        service.do_all(("do", "eve", "a"), ("tell", "eve"), ("hear", "bob", 0), ("do", "ann", "a"))
        self.assert_same([service.copy_of(hand) for hand in ("ann", "bob", "eve")], [(2,), (3,), (3,)])
        service.meet("ann", "bob")
        self.assert_same([service.copy_of(hand) for hand in ("ann", "bob", "eve")], [(4,), (4,), (3,)])

    def test_askings(self):
        service = till()
        service.do("ann", "put")
        self.assert_same([service.ask("ann", "put"), service.sums, service.changes], [("ann", "bob"), ((2,), (0,)), (1, 1)])
        # Of the deed only its hand knows.
        self.assert_same([service.copy_of("ann"), service.copy_of("bob")], [(4,), (3,)])
        still = Service(TILL, START, (((-1,), (0,), (2,)), ((0,),)))
        self.assert_same([still.ask("ann", "put"), still["ann"], still.changes], [("ann",), ((-1,), (0,), (1,), (2,)), (1, 0)])

    def test_exchanges(self):
        service = till()
        service.do("ann", "put")
        self.assert_same(service.exchange(("ann", "bob"), (((1,),), ((-3,), (0,), (1,)))), ())
        self.assert_same([service.family, service.changes, service.copy_of("bob")], [(((1,),), ((-3,), (0,), (1,))), (1, 1), (3,)])
        # Parts of the own right may be had, too, without the others.
        self.assert_same([service.exchange(("bob",), (((0,), (1,)),)), service.changes], [(), (1, 2)])
        # Together they may have what start lets them, not only what the worth does.
        wide = (((-2,), (2,)), ((0,),))
        self.assert_same(till().tried(("exchange", ("ann", "bob"), (((-2,), (0,), (2,)), ((0,),))))[0], (((-2,), (0,), (2,)), ((0,),)))
        self.assert_fails(InvalidEvent(("exchange", ("ann", "bob"), wide), "sum"), till().exchange, ("ann", "bob"), wide)

    def test_gifts(self):
        service = till()
        self.assert_same([service.go(GIFT), service.family, service.changes], [0, (((0,), (1,)), BOTH[1]), (1, 0)])
        self.assert_same(service.letters, (("gift", "ann", "bob", GIFT[4], 0),))
        self.assert_same([service.take("bob", 0), service.family, service.changes], [(), (((0,), (1,)), GIFT[4]), (1, 1)])
        # A letter that gives is taken once at most.
        self.assert_fails(InvalidEvent(("take", "bob", 0), "void"), service.take, "bob", 0)
        self.assert_fails(InvalidEvent(("take", "ann", 0), "letter"), service.take, "ann", 0)
        self.assert_fails(InvalidEvent(("hear", "bob", 0), "letter"), service.hear, "bob", 0)

    def test_gifts_that_are_void(self):
        for event in (("meet", ("bob",)), ("meet", ("ann", "bob")), ("exchange", ("bob",), (BOTH[1],)), ("giveup", "bob", BOTH[1]),
                      ("give", "bob", "ann", BOTH[1], ((0,), (1,))), ("ask", "bob", "take")):
            service = till()
            service.go(GIFT)
            if event[0] == "ask":
                service.do("bob", "take")
            service.go(event)
            self.assert_fails(InvalidEvent(("take", "bob", 0), "void"), service.take, "bob", 0)
        for event in (("meet", ("ann",)), ("do", "bob", "take"), ("do", "ann", "put"), ("tell", "bob"), ("giveup", "ann", ((0,),)),
                      ("exchange", ("ann",), (((0,),),))):
            service = till()
            service.go(GIFT)
            service.go(event)
            self.assert_same(service.take("bob", 0), ())

    def test_several_letters(self):
        # Two gifts for one heir: the first one that is taken makes the other one void.
        for first, other in ((0, 1), (1, 0)):
            service = till()
            service.go(GIFT)
            self.assert_same(service.give("ann", "bob", ((0,),), ((-1,), (0,), (1,))), 1)
            self.assert_same(service.take("bob", first), ())
            self.assert_fails(InvalidEvent(("take", "bob", other), "void"), service.take, "bob", other)

    def test_giving_up(self):
        service = till()
        self.assert_same([service.give_up("ann", ((0,),)), service.family, service.changes], [(), (((0,),), BOTH[1]), (1, 0)])
        self.assert_same([service.give_up("ann", ((0,),)), service.changes], [(), (2, 0)])


class ReasonsTest(StrictTest):
    def wrong(self, reason, *events, service=None):
        for event in events:
            one = till() if service is None else service
            before, counts = seen(one), one.counts()
            self.assert_fails(InvalidEvent(event, reason), one.go, event)
            self.assert_same(seen(one), before)
            self.assert_same(one.counts(), (counts[0] + 1, counts[1] + 1))

    def test_any_values(self):
        for value in [*ANYTHING, TILL, till(), ("undo",), ("do",), ("do", "ann"), ("tell",), ("meet",), ("service", TILL, START, BOTH)]:
            for call in (till().go, till()):
                with self.assertRaises(InvalidEvent) as caught:
                    call(value)
                self.assertIs(caught.exception.event, value)
                self.assertEqual(caught.exception.reason, "shape")

    def test_any_values_in_each_place(self):
        events = [event for event, _ in EVENTS]
        many = 0
        for event in events:
            for at in range(len(event)):
                for value in [*ANYTHING, [event[at]], (event[at],), True, -1, ((0,), [1]), (((0,),), ((1,), ())), ("ann", "Bob")]:
                    wrong = (*event[:at], value, *event[at + 1:])
                    if not model.is_event(wrong):
                        many += 1
                        self.wrong("shape", wrong)
        self.assertGreater(many, 1500)

    def test_any_values_in_the_methods(self):
        methods = [("do", 2), ("ask", 2), ("tell", 1), ("hear", 2), ("take", 2), ("meet", 1), ("meet", 2), ("exchange", 2),
                   ("give", 4), ("give_up", 2)]
        for name, many in methods:
            for value in ANYTHING:
                values = (value,) * many
                word = {"give_up": "giveup"}.get(name, name)
                event = (word, values) if word == "meet" else (word, *values)
                if not model.is_event(event):
                    service = till()
                    self.assert_fails(InvalidEvent(event, "shape"), getattr(service, name), *values)
                    self.assert_same([seen(service), service.counts()], [seen(till()), (1, 1)])
        for hands in ((), ("bob", "ann"), ("ann", "ann"), (("ann",),), (["ann"],)):
            self.assert_fails(InvalidEvent(("meet", hands), "shape"), till().meet, *hands)

    def test_kinds(self):
        # The kind is looked at by form alone: any names, any lengths.
        for event, _ in EVENTS:
            self.assert_same(is_event(event), True)
            self.assert_same(model.is_event(event), True)
            for at in range(len(event)):
                for value in [*ANYTHING, *NO_RIGHTS, *[other[-1] for other, _ in EVENTS], *[other[1] for other, _ in EVENTS]]:
                    thing = (*event[:at], value, *event[at + 1:])
                    self.assert_same(is_event(thing), model.is_event(thing), thing)
            self.assert_same([is_event(event[:-1]), is_event((*event, 0)), is_event(list(event))], [False] * 3)
        for value in ANYTHING:
            self.assert_same(is_event(value), False)
        self.assert_same(is_event(thing=("exchange", ("ann",), (((0,),), ((0,),)))), False)

    def test_hands(self):
        self.wrong("hand", ("do", "eve", "put"), ("ask", "eve", "fly"), ("tell", "eve"), ("hear", "eve", 9), ("take", "eve", 9),
                   ("meet", ("ann", "eve")), ("meet", ("eve",)), ("exchange", ("ann", "eve"), (((0, 0),), ((5,),))),
                   ("give", "eve", "ann", ((0, 0),), ((0,),)), ("give", "ann", "eve", ((0, 0),), ((0,),)),
                   ("give", "eve", "eve", ((0,),), ((0,),)), ("giveup", "eve", ((0, 0),)))

    def test_deeds(self):
        self.wrong("deed", ("do", "bob", "put"), ("ask", "bob", "put"), ("do", "ann", "ann"), ("ask", "ann", "fly"))

    def test_deeds_within_the_right_and_not(self):
        self.wrong("unasked", ("ask", "ann", "put"), ("ask", "bob", "take"))
        service = till()
        service.do_all(("do", "ann", "put"), ("do", "bob", "take"))
        self.wrong("right", ("do", "ann", "put"), ("do", "bob", "take"), service=service)
        self.wrong("unasked", ("ask", "ann", "take"), service=service)
        full = Service(TILL, (4,), (((0,),), ((0,),)))
        self.wrong("right", ("do", "ann", "put"), service=full)
        self.wrong("none", ("ask", "ann", "put"), service=full)

    def test_letters(self):
        service = till()
        service.tell("ann")
        service.go(GIFT)
        self.wrong("letter", ("hear", "bob", 1), ("hear", "bob", 2), ("hear", "bob", 10 ** 59), ("take", "bob", 0),
                   ("take", "bob", 2), ("take", "ann", 1), ("take", "ann", 0), service=service)
        service.go(("meet", ("bob",)))
        self.wrong("void", ("take", "bob", 1), service=service)
        self.wrong("letter", ("take", "ann", 1), service=service)

    def test_rights(self):
        long = ((0, 0),)
        self.wrong("rights", ("exchange", ("ann",), (long,)), ("exchange", ("ann", "bob"), (((9,),), long)),
                   ("give", "ann", "ann", long, BOTH[0]), ("give", "ann", "bob", ((9,),), long), ("giveup", "ann", long))
        self.wrong("heir", ("give", "ann", "ann", ((9,),), ((9,),)), ("give", "ann", "ann", BOTH[0], BOTH[0]))
        self.wrong("sum", ("exchange", ("ann",), (((9,),),)), ("exchange", ("ann", "bob"), (BOTH[0], ((-1,), (9,)))),
                   ("give", "ann", "bob", ((9,),), ((9,),)), ("giveup", "ann", ((9,),)), ("giveup", "bob", ((-1,),)))
        self.wrong("harm", ("exchange", ("ann",), (((0,), (9,)),)), ("exchange", ("ann", "bob"), (((0,), (3,)), ((0,),))),
                   ("exchange", ("ann",), (((-1,), (0,), (1,), (2,)),)), ("giveup", "ann", ((0,), (2,))),
                   ("give", "ann", "bob", ((0,), (2,)), BOTH[1]), ("give", "ann", "bob", BOTH[0], ((0,),)),
                   ("give", "ann", "bob", BOTH[0], ((-2,), (-1,), (0,))), ("give", "ann", "bob", BOTH[0], ((0,), (1,))))

    def test_a_group_of_all_hands(self):
        # It may have what is safe at the start, even if the worth of its rights does not tell so, and only that.
        service = Service(ALONE, (2,), (((0,), (1,)),))
        self.assert_same([service.exchange(("ann",), (((-2,), (0,)),)), service["ann"]], [(), ((-2,), (0,))])
        self.wrong("harm", ("exchange", ("ann",), (((-1,), (0,)),)), service=service)
        wide = ((("x", 0, 4),), (), (("ann", ()), ("bob", ()), ("eve", ())))
        trio = Service(wide, (2,), (((0,),), ((0,),), ((-1,), (0,), (1,))))
        self.wrong("harm", ("exchange", ("ann", "bob"), (((0,), (1,)), ((0,),))), service=trio)
        self.assert_same(trio.exchange(("ann", "bob", "eve"), (((0,), (1,)), ((0,),), ((-1,), (0,), (1,)))), ())

    def test_forty_events(self):
        service = till()
        for n in range(40):
            self.assert_same(service.tell("ann"), n)
        self.wrong("full", ("tell", "ann"), ("tell", "eve"), ("do", "bob", "put"), ("giveup", "ann", ((9, 9),)), service=service)
        self.wrong("shape", ("tell", "Ann"), None, service=service)
        service.undo()
        self.wrong("hand", ("tell", "eve"), service=service)
        self.assert_same([service.tell("bob"), len(service)], [39, 40])
        self.wrong("full", GIFT, service=service)

    def test_all_reasons_in_order(self):
        # Each event that is not possible for several reasons, against the first of them by the model.
        several = set()
        for service, due, chance in live(57, 8):
            for _ in range(90):
                event = chance.choice([some_event, wild_event, wild_event])(chance, due)
                reasons = list(due.reasons(event))
                if reasons:
                    several.add((event[0], *reasons))
                    self.wrong(reasons[0], event, service=service)
                else:
                    due.go(event)
                    service.go(event)
        for reasons in (("give", "rights", "heir", "sum"), ("give", "sum", "harm"), ("give", "heir", "sum"), ("give", "rights", "sum"),
                        ("exchange", "sum", "harm"), ("giveup", "sum", "harm"), ("giveup", "rights", "sum", "harm"),
                        ("do", "full", "deed"), ("ask", "full", "hand"), ("take", "full", "letter"), ("take", "full", "void")):
            self.assertIn(reasons, several)


if __name__ == "__main__":
    unittest.main()
