"""DOC.md [55], [66], [67]: events and logs as lines."""

import unittest

from ownrights.eventtexts import event_line, log_lines
from tests.helpers import BOTH, SHOP, START, TILL, StrictTest

BIG = 10 ** 60 - 1
# Each event with its line; also the tests of the readings use them.
EVENTS = (
    (("do", "ann", "put"), "do ann put"),
    (("ask", "do", "ask"), "ask do ask"),
    (("tell", "bob"), "tell bob"),
    (("hear", "ann", 0), "hear ann 0"),
    (("hear", "bob", BIG), "hear bob " + "9" * 60),
    (("take", "bob", 10), "take bob 10"),
    (("meet", ("ann",)), "meet ann"),
    (("meet", ("ann", "bob", "eve")), "meet ann,bob,eve"),
    (("exchange", ("bob",), (((-1,), (2,)),)), "exchange bob -1;2"),
    (("exchange", ("ann", "bob"), (((0, 1), (1, 0)), ((-1,),))), "exchange ann,bob 0,1;1,0 -1"),
    (("give", "ann", "bob", ((0,), (1,)), ((-2,), (-1,), (0,))), "give ann bob 0;1 -2;-1;0"),
    (("give", "ann", "ann", ((0,),), ((0, 0),)), "give ann ann 0 0,0"),
    (("giveup", "eve", ((0, -BIG),)), "giveup eve 0,-" + "9" * 60),
)
LOG = (("service", TILL, START, BOTH), *[event for event, _ in EVENTS])
LINES = [
    "service 6", "item coins 0 4", "hand ann", "deed put 1", "deed take -1", "hand bob", "deed take -1", "start 2",
    "family -1;0;1 -1;0", *[line for _, line in EVENTS],
]


class EventTextsTest(StrictTest):
    def test_events(self):
        for event, line in EVENTS:
            self.assert_same(event_line(event), line)
            self.assert_same(event_line(event=event), line)

    def test_logs(self):
        self.assert_same(log_lines(LOG), LINES)
        self.assert_same(log_lines(log=LOG[:1]), LINES[:9])
        shop = ("service", SHOP, (4, 5), (((0, 0),), ((0, 0), (1, -1)), ((0, 0),)))
        lines = log_lines((shop, ("tell", "ann")))
        self.assert_same([lines[0], lines[1], lines[3]], ["service 10", "item bread 0 9", "rule < item bread 9"])
        self.assert_same(lines[10:], ["deed rob 0,-12", "start 4,5", "family 0,0 0,0;1,-1 0,0", "tell ann"])

    def test_numbers_that_cannot_be_read(self):
        big = 10 ** 80
        store = ((("a", -big, big),), (), (("b", (("c", (big,)),)),))
        lines = log_lines((("service", store, (-big,), (((0,), (big,)),)), ("hear", "b", big)))
        text = str(big)
        due = ["service 3", f"item a -{text} {text}", "hand b", f"deed c {text}", f"start -{text}", f"family 0;{text}"]
        self.assert_same(lines, [*due, f"hear b {text}"])

    def test_lists_are_independent(self):
        one, other = log_lines(LOG), log_lines(LOG)
        one.clear()
        self.assert_same([other, log_lines(LOG)], [LINES, LINES])


if __name__ == "__main__":
    unittest.main()
