"""DOC.md [7] (U9), [55], [61], [65], [66], [67]: logs, and services that are made of them again."""

import unittest

from ownrights.errors import InvalidEvent, RightError
from ownrights.eventreadings import read_event, read_log
from ownrights.eventtexts import event_line, log_lines
from ownrights.replaying import is_log, replayed
from ownrights.services import Service
from tests.direct import NO_RIGHTS
from tests.helpers import ANYTHING, BOTH, SHOP, START, TILL, StrictTest
from tests.model import some_event
from tests.test_eventtexts import EVENTS
from tests.test_services import GIFT, live, seen, till

FIRST = ("service", TILL, START, BOTH)


class LogTest(StrictTest):
    def test_logs(self):
        service = till()
        self.assert_same([service.log(), str(service)], [(FIRST,), "-"])
        service.do("ann", "put")
        service.meet("ann", "bob")
        service.give("ann", "bob", ((1,),), ((-1,), (0,)))
        due = (("do", "ann", "put"), ("meet", ("ann", "bob")), ("give", "ann", "bob", ((1,),), ((-1,), (0,))))
        # The family stands there as at the beginning.
        self.assert_same(service.log(), (FIRST, *due))
        self.assert_same(str(service), "do ann put / meet ann,bob / give ann bob 1 -1;0")
        service.undo()
        self.assert_same([service.log(), str(service)], [(FIRST, *due[:2]), "do ann put / meet ann,bob"])

    def test_written_parsed_and_replayed(self):
        for service, due, chance in live(66, 5):
            for _ in range(30):
                event = some_event(chance, due)
                if due.reason(event) is None:
                    due.go(event)
                    service.go(event)
            log = service.log()
            self.assert_same(is_log(log), True)
            lines = log_lines(log)
            self.assert_same(str(service), " / ".join(lines[len(lines) - len(service):]) or "-")
            self.assert_same(read_log(lines), log)
            again = replayed(read_log(lines))
            self.assertIs(type(again), Service)
            self.assert_same([again == service, seen(again), again.counts()], [True, seen(service), (0, 0)])
            self.assert_same([read_event(event_line(event)) for event in log[1:]], list(log[1:]))
            # It is a new one.
            again.undo() if len(again) else again.tell(due.hands[0])
            self.assert_same([again == service, service.log() == log], [False, True])

    def test_small_ones(self):
        self.assert_same([replayed((FIRST,)) == till(), replayed(log=(FIRST,)).counts()], [True, (0, 0)])
        self.assert_same(replayed((FIRST, GIFT, ("take", "bob", 0))).family, (((0,), (1,)), ((-2,), (-1,), (0,))))

    def test_the_first_error(self):
        for events, at, reason in (((("do", "ann", "put"),) * 3, 1, "right"), ((("tell", "eve"), ("do", "x", "y")), 0, "hand"),
                                   ((GIFT, ("hear", "bob", 0), ("tell", "eve")), 1, "letter"), ((("tell", "ann"),) * 42, 40, "full")):
            self.assert_same(is_log((FIRST, *events)), True)
            with self.assertRaises(InvalidEvent) as caught:
                replayed((FIRST, *events))
            self.assertIs(caught.exception.event, events[at])
            self.assertEqual(caught.exception.reason, reason)


class IsLogTest(StrictTest):
    def test_all_events_by_kind(self):
        # Whether they are possible is not looked at.
        events = [event for event, _ in EVENTS]
        self.assert_same(is_log((FIRST, *events)), True)
        self.assert_same(is_log(thing=(FIRST,)), True)
        self.assert_same(is_log((FIRST, *events * 9)), True)
        for event in events:
            for value in [*ANYTHING, ("undo",), FIRST, event[:-1], list(event), (*event, 1)]:
                self.assert_same(is_log((FIRST, event, value)), False)
                self.assert_same(is_log((FIRST, value, event)), False)

    def test_any_values(self):
        for value in [*ANYTHING, [FIRST], FIRST, (list(FIRST),), (FIRST[:3],), ((*FIRST, 0),), (None, FIRST), till(), str(till())]:
            self.assert_same(is_log(value), False)
        for at in range(4):
            for value in [*ANYTHING, *NO_RIGHTS, SHOP, BOTH[:1], ("Service",), "log"]:
                first = (*FIRST[:at], value, *FIRST[at + 1:])
                try:
                    Service(*first[1:])
                    due = first[0] == "service"
                except RightError:
                    due = False
                self.assert_same(is_log((first,)), due)

    def test_services_that_cannot_be_made(self):
        for first in (("service", TILL, (9,), BOTH), ("service", TILL, START, (((1,),), ((0,),))), ("service", TILL, (0, 0), BOTH),
                      ("service", (TILL[0], (("=", 1),), TILL[2]), START, BOTH), ("services", TILL, START, BOTH),
                      ("service", TILL, START, (BOTH[0],) * 3), (None, TILL, START, BOTH)):
            self.assert_same(is_log((first, ("tell", "ann"))), False)


if __name__ == "__main__":
    unittest.main()
