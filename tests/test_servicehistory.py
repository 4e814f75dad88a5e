"""DOC.md [9], [58], [60], [61]: what is tried, taken back and counted, and when services are equal."""

import unittest

from ownrights.errors import InvalidEvent, NothingToUndo
from ownrights.services import Service
from tests.helpers import ANYTHING, BOTH, SHOP, START, TILL, StrictTest
from tests.model import Model, some_event, wild_event
from tests.test_services import GIFT, live, seen, till

PUT, TAKE, BOB = ("do", "ann", "put"), ("do", "ann", "take"), ("do", "bob", "take")


def possible(service, due, chance, many):
    """Possible events, as many as are found among so many; nothing is done."""
    events = []
    copy = Model(due.store, due.start, due.family())
    for _ in range(many):
        event = some_event(chance, copy)
        if copy.reason(event) is None:
            copy.go(event)
            events.append(event)
    return events


class TriedTest(StrictTest):
    def test_possible_events(self):
        for service, due, chance in live(61, 4):
            events = possible(service, due, chance, 12)
            before, counts = seen(service), service.counts()
            for many in range(len(events) + 1):
                found = service.tried(*events[:many])
                other = Service(service.store, service.start, service.family)
                other.do_all(*events[:many])
                self.assert_same(found, (other.family, other.sums))
            self.assert_same([seen(service), service.counts()], [before, counts])

    def test_no_events(self):
        service = till()
        service.go(PUT)
        self.assert_same(service.tried(), (BOTH, ((1,), (0,))))

    def test_the_first_error(self):
        service = till()
        service.go(PUT)
        before = seen(service)
        for events, at, reason in (((TAKE, PUT, PUT, ("x",)), 2, "right"), ((None, PUT), 0, "shape"), ((GIFT, ("take", "ann", 0)), 1, "letter"),
                                   ((TAKE, ("do", "eve", "x"), 5), 1, "hand")):
            with self.assertRaises(InvalidEvent) as caught:
                service.tried(*events)
            self.assertIs(caught.exception.event, events[at])
            self.assertEqual(caught.exception.reason, reason)
            self.assert_same([seen(service), service.counts()], [before, (1, 1)])

    def test_any_values(self):
        service = till()
        for value in [*ANYTHING, service, ("undo",)]:
            for events in ((value,), (PUT, value, None)):
                with self.assertRaises(InvalidEvent) as caught:
                    service.tried(*events)
                self.assertIs(caught.exception.event, value)
        self.assert_same([seen(service), service.counts()], [seen(till()), (0, 0)])

    def test_full_counts_them_too(self):
        service = till()
        service.do_all(*[("tell", "ann")] * 38)
        self.assert_same(service.tried(PUT, TAKE), (BOTH, ((0,), (0,))))
        self.assert_fails(InvalidEvent(BOB, "full"), service.tried, PUT, TAKE, BOB)
        self.assert_fails(InvalidEvent(PUT, "right"), service.tried, PUT, PUT, BOB)


class UndoTest(StrictTest):
    def test_back_to_the_beginning(self):
        for service, due, chance in live(62, 4):
            events = possible(service, due, chance, 30)
            states = [seen(service)]
            for event in events:
                service.go(event)
                states.append(seen(service))
            for at in range(len(events) - 1, -1, -1):
                self.assert_same(service.undo(), events[at])
                self.assert_same(seen(service), states[at])
            self.assert_fails(NothingToUndo(0), service.undo)

    def test_on_and_back_again(self):
        service = till()
        service.do_all(PUT, GIFT)
        self.assert_same([service.undo(), service.letters, service.undo(), service.whole], [GIFT, (), PUT, START])
        self.assert_fails(NothingToUndo(0), service.undo)
        self.assert_same([service.do("bob", "take"), service.undo()], [(-1,), BOB])
        self.assert_same([service.give(*GIFT[1:]), len(service), service.letters[0][4]], [0, 1, 0])

    def test_letters_that_were_not_written(self):
        service = till()
        service.do_all(("tell", "ann"), PUT, ("tell", "ann"))
        service.undo()
        self.assert_fails(InvalidEvent(("hear", "bob", 1), "letter"), service.hear, "bob", 1)
        self.assert_same([service.hear("bob", 0), service.undo(), service.undo(), service.tell("ann")],
                         [START, ("hear", "bob", 0), PUT, 1])


class DoAllTest(StrictTest):
    def test_possible_events(self):
        for service, due, chance in live(63, 4):
            events = possible(service, due, chance, 20)
            other = Service(service.store, service.start, service.family)
            for event in events:
                other.go(event)
            self.assert_same([service.do_all(*events), service.counts()], [len(events), (1, 1)])
            self.assert_same(seen(service), seen(other))
        self.assert_same([till().do_all(), till().do_all(keep=True)], [0, 0])

    def test_errors_with_keep_and_without(self):
        for events, at, reason in (((PUT, PUT, BOB), 1, "right"), ((5, PUT), 0, "shape"), ((GIFT, ("take", "bob", 1), PUT, None), 3, "shape"),
                                   ((PUT, ("hear", "bob", 5)), 1, "letter")):
            for keep in (False, True):
                service, due = till(), till()
                service.go(("tell", "bob"))
                due.do_all(("tell", "bob"), *(events[:at] if keep else ()))
                with self.assertRaises(InvalidEvent) as caught:
                    service.do_all(*events, keep=keep)
                self.assertIs(caught.exception.event, events[at])
                self.assertEqual(caught.exception.reason, reason)
                self.assert_same([seen(service), service.counts()], [seen(due), (2, 2)])

    def test_any_values(self):
        for value in [*ANYTHING, till()]:
            for keep in (False, True):
                service = till()
                with self.assertRaises(InvalidEvent) as caught:
                    service.do_all(PUT, value, None, keep=keep)
                self.assertIs(caught.exception.event, value)
                self.assert_same([len(service), service.counts()], [int(keep), (1, 1)])

    def test_forty_events(self):
        for keep in (False, True):
            service = till()
            service.do_all(*[("tell", "ann")] * 39)
            self.assert_fails(InvalidEvent(PUT, "full"), service.do_all, ("tell", "bob"), PUT, 5, keep=keep)
            self.assert_same(len(service), 40 if keep else 39)

    def test_drawn_events(self):
        for service, due, chance in live(64, 5):
            other = Service(service.store, service.start, service.family)
            for _ in range(6):
                events = [chance.choice([some_event, some_event, wild_event])(chance, due) for _ in range(3)]
                keep = chance.random() < 0.5
                done = []
                for event in events:
                    if due.reason(event) is not None:
                        break
                    due.go(event)
                    done.append(event)
                if len(done) == len(events):
                    self.assert_same(service.do_all(*events, keep=keep), 3)
                else:
                    with self.assertRaises(InvalidEvent) as caught:
                        service.do_all(*events, keep=keep)
                    self.assertIs(caught.exception.event, events[len(done)])
                if keep or len(done) == len(events):
                    other.do_all(*done)
                else:
                    due = Model(service.store, service.start, other.log()[0][3])
                    for event in other.log()[1:]:
                        due.go(event)
                self.assert_same(seen(service), seen(other))


class CountsTest(StrictTest):
    def test_each_call_counts_once(self):
        service = till()
        calls = [lambda: service.do("ann", "put"), lambda: service.ask("ann", "put"), lambda: service.tell("ann"),
                 lambda: service.hear("bob", 0), lambda: service.meet("ann"), lambda: service.give("ann", "bob", ((2,),), ((-4,), (0,))),
                 lambda: service.take("bob", 1), lambda: service.give_up("ann", ((2,),)), lambda: service.go(("tell", "bob")),
                 lambda: service.exchange(("ann",), (((2,),),)), lambda: service(("tell", "bob")), service.undo,
                 lambda: service.do_all(("tell", "ann"), ("tell", "ann")), lambda: service.do_all()]
        for many, call in enumerate(calls):
            self.assert_same(service.counts(), (many, many))
            call()
        self.assert_same(service.counts(), (len(calls), len(calls)))
        self.assert_same(len(service), 12)

    def test_errors_count_too(self):
        service = till()
        calls = [lambda: service.do("ann", "x"), lambda: service.ask("ann", "put"), lambda: service.tell(5), lambda: service.hear("bob", 0),
                 service.meet, lambda: service.exchange(None, None), lambda: service.give(1, 2, 3, 4), lambda: service.take("bob", 1),
                 lambda: service.give_up("ann", ((2,),)), lambda: service.go(None), lambda: service(None), service.undo,
                 lambda: service.do_all(("tell", "ann"), None), lambda: service.do_all(None, keep=True)]
        for many, call in enumerate(calls):
            self.assert_same(service.counts(), (many, many))
            with self.assertRaises((InvalidEvent, NothingToUndo)):
                call()
        self.assert_same([service.counts(), seen(service)], [(len(calls),) * 2, seen(till())])

    def test_what_is_not_counted(self):
        service = till()
        self.assertTrue([service.tried(PUT), service.log(), str(service), len(service), service["ann"], service.copy_of("ann"),
                         service.table(), service.open_deeds(), service.groups_for("ann", "put"), service.room("ann"),
                         service.spare("ann"), service.sure("ann"), service.is_full(), service.family, service.sums, service.whole,
                         service.changes, service.letters, service.counts(), ("ann", "put") in service, service == service])
        with self.assertRaises(InvalidEvent):
            service.tried(None)
        self.assert_same(service.counts(), (0, 0))


class EqualityTest(StrictTest):
    def test_equal_logs(self):
        service, other = till(), till()
        self.assert_same([service == other, service != other], [True, False])
        service.go(PUT)
        self.assert_same([service == other, service != other], [False, True])
        other.do_all(PUT, TAKE)
        self.assert_same(service == other, False)
        other.undo()
        self.assert_same([service == other, service.counts() == other.counts()], [True, False])

    def test_what_is_not_equal(self):
        # Different events, even if all that can be seen else is the same.
        one, other = till(), till()
        one.do_all(("tell", "ann"), ("tell", "bob"), ("hear", "ann", 0))
        other.do_all(("tell", "ann"), ("tell", "bob"), ("hear", "ann", 1))
        self.assert_same([one.family == other.family, one.letters == other.letters, one == other], [True, True, False])
        self.assert_same(till() == Service(TILL, START, (((0,),), ((0,),))), False)
        self.assert_same(till() == Service(TILL, (1,), (((0,),), ((0,),))), False)
        self.assert_same(Service(SHOP, (0, 5), (((0, 0),),) * 3) == till(), False)
        for value in [*ANYTHING, till().log(), str(till())]:
            self.assert_same([till() == value, value == till()], [False, False])


if __name__ == "__main__":
    unittest.main()
