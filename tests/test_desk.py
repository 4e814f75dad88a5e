"""DOC.md [9], [63], [66], [67], [68]: a desk, beside a service that is told the same."""

import unittest

from ownrights.desk import Desk
from ownrights.errors import (
    InvalidEvent, InvalidFamily, InvalidPaper, InvalidRow, InvalidSums, NothingToUndo, RightError, UnknownDeed, UnknownHand,
)
from ownrights.eventtexts import event_line, log_lines
from ownrights.services import Service
from ownrights.storetexts import sum_text, sums_text
from tests.direct import IDLE, hands_of, keys_of
from tests.helpers import ANYTHING, BOTH, SHOP, START, TILL, StrictTest
from tests.model import some_event, wild_event
from tests.test_services import GIFT, live, till

FIRST = "\n".join(log_lines((("service", TILL, START, BOTH),)))
PLAIN = ("undo", "count", "log", "whole", "sums", "family", "changes", "letters", "open", "full", "table")
OF_HAND = ("right", "copy", "room", "spare", "sure")


def desk(service=None):
    """A desk with a service that is told the same as the given one."""
    one = Desk()
    log = (till() if service is None else service).log()
    one.say("\n".join(log_lines(log[:1])))
    for event in log[1:]:
        one.say(event_line(event))
    return one


def joined(words):
    return " ".join(words) or "-"


def answer_text(event, answer):
    word = event[0]
    if answer == ():
        return "ok"
    if word in ("do", "hear"):
        return ",".join(map(str, answer))
    if word in ("tell", "give"):
        return str(answer)
    return joined(map(sums_text, answer)) if word == "meet" else ",".join(answer)


def asked(service):
    """The answers that are due to all rows that ask something."""
    rows = {
        "count": str(len(service)), "log": str(service), "whole": sum_text(service.whole),
        "sums": joined(map(sum_text, service.sums)), "family": joined(map(sums_text, service.family)),
        "changes": joined(map(str, service.changes)), "letters": str(len(service.letters)),
        "open": joined(".".join(key) for key in service.open_deeds()), "full": "yes" if service.is_full() else "no",
        "table": " / ".join(service.table()),
    }
    for hand in hands_of(service.store):
        rows[f"right {hand}"] = sums_text(service[hand])
        rows[f"copy {hand}"] = sum_text(service.copy_of(hand))
        rows[f"room {hand}"] = sums_text(service.room(hand))
        rows[f"spare {hand}"] = sums_text(service.spare(hand))
        rows[f"sure {hand}"] = str(service.sure(hand))
    for hand, deed in keys_of(service.store):
        rows[f"groups {hand} {deed}"] = joined(",".join(group) for group in service.groups_for(hand, deed))
    return rows


class DeskTest(StrictTest):
    def test_beside_a_service(self):
        reasons = set()
        for service, due, chance in live(68, 3):
            one = desk(service)
            for _ in range(25):
                event = chance.choice([some_event, some_event, wild_event])(chance, due)
                reason = due.reason(event)
                if chance.random() < 0.1 and len(service):
                    self.assert_same(one.say("undo"), event_line(service.undo()))
                    break
                if reason is None:
                    due.go(event)
                    self.assert_same(one.say(event_line(event)), answer_text(event, service.go(event)))
                else:
                    reasons.add(reason)
                    self.assert_fails(InvalidEvent(event, reason), one.say, event_line(event))
                for row, answer in asked(service).items():
                    self.assert_same(one.say(row), answer, row)
        self.assertLessEqual({"hand", "deed", "right", "harm", "letter"}, reasons)

    def test_all_answers(self):
        one = Desk()
        rows = [
            (FIRST, "ok"), ("log", "-"), ("count", "0"), ("letters", "0"), ("full", "no"), ("do ann put", "1"), ("sums", "1 0"),
            ("open", "ann.take bob.take"), ("whole", "3"), ("ask ann put", "ann,bob"), ("family", "-2;-1;0;1;2 0"),
            ("full", "yes"), ("changes", "1 1"), ("tell ann", "0"), ("hear bob 0", "4"), ("copy bob", "4"), ("spare ann", "-"),
            ("spare bob", "-"), ("sure ann", "0"), ("sure bob", "0"), ("room bob", "0"), ("right bob", "0"),
            ("groups ann put", "-"), ("groups ann take", "ann"), ("giveup ann 2", "ok"), ("spare ann", "-"),
            ("groups bob take", "ann,bob"), ("exchange ann,bob 1;2 -1;0", "ok"), ("give ann bob 2 -2;-1;0", "1"),
            ("take bob 1", "ok"), ("right bob", "-2;-1;0"), ("meet ann,bob", "0;1;2 -2;-1;0"), ("open", "ann.take bob.take"),
            ("undo", "meet ann,bob"), ("count", "8"), ("letters", "2"), ("changes", "4 3"),
            ("table", "ann        1   2   4 whole / bob        3   0   3 whole"),
            ("log", "do ann put / ask ann put / tell ann / hear bob 0 / giveup ann 2 / exchange ann,bob 1;2 -1;0 / "
                    "give ann bob 2 -2;-1;0 / take bob 1"),
            (FIRST, "ok"), ("log", "-"), ("table", "ann        3   0   0 whole / bob        2   0   0 whole"),
        ]
        for row, answer in rows:
            self.assert_same(one.say(row=row), answer, row)
        self.assert_same(one.counts(), (len(rows), len(rows)))

    def test_none(self):
        one = desk(Service(IDLE, (1,), (((0,), (2,)), ((0,),))))
        self.assert_same([one.say("open"), one.say("spare ann"), one.say("spare bob"), one.say("log")], ["-", "2", "-", "-"])

    def test_two_items(self):
        service = Service(SHOP, (4, 5), (((-1, 2), (0, 0)), ((0, 0),), ((0, 0),)))
        one = desk(service)
        self.assert_same([one.say("do ann buy"), one.say("whole"), one.say("sums"), one.say("meet bob"), one.say("right ann")],
                         ["-1,2", "3,7", "-1,2 0,0 0,0", "0,0", "-1,2;0,0"])


class RowsTest(StrictTest):
    def refused(self, *rows, service=None):
        for row in rows:
            one = desk(service)
            counts = one.counts()
            before = [one.say(row) for row in ("log", "family")]
            self.assert_fails(InvalidRow(row), one.say, row)
            self.assert_same([one.say(row) for row in ("log", "family")], before)
            self.assert_same(one.counts(), (counts[0] + 5,) * 2)

    def test_before_the_first_service(self):
        one = Desk()
        rows = [*PLAIN, *[f"{word} ann" for word in OF_HAND], "groups ann put", "do ann put", "tell ann", "meet ann", "", "x",
                FIRST + "\n", FIRST + "\ndo ann put", "\n" + FIRST, FIRST.replace("start", "begin"), FIRST[:-1], FIRST[:30]]
        for many, row in enumerate(rows):
            self.assert_same(one.counts(), (many, many))
            self.assert_fails(InvalidRow(row), one.say, row)
        self.assert_same(Desk().counts(), (0, 0))

    def test_services_that_cannot_be_made(self):
        bad = [(FIRST.replace("0 4", "5 4"), InvalidPaper("item", 0)), (FIRST.replace("start 2", "start 2,2"), InvalidSums("start", -1)),
               (FIRST + " 0", InvalidFamily("shape", -1)), (FIRST.replace("-1;0;1 ", "0,1 "), InvalidFamily("right", 0)),
               (FIRST.replace("start 2", "start 9"), InvalidFamily("unsafe", -1)),
               (FIRST.replace("-1;0;1 -1;0", "1 -1"), InvalidFamily("zero", 0))]
        for row, error in bad:
            one = Desk()
            self.assert_fails(error, one.say, row)
            self.assert_fails(InvalidRow("log"), one.say, "log")
            self.assert_same([one.say(FIRST), one.say("do ann put")], ["ok", "1"])
            self.assert_fails(error, one.say, row)
            # It keeps what it had.
            self.assert_same([one.say("log"), one.counts()], ["do ann put", (6, 6)])

    def test_rows_that_are_none(self):
        self.refused("", " ", "x", "Undo", "undo ", " undo", "undo\n", "\nundo", "undo 1", "count ann", "log log", "table\n", "opens",
                     "right", "right ", "right  ann", "right Ann", "right ann bob", "right ann ", "right ann\n", "right ann,bob",
                     "copy abcdefghi", "room -", "spare 0", "sure ann 3", "groups", "groups ann", "groups ann put put", "groups ann Put",
                     "groups Ann put", "groups  put", "groups ann  put", "family 0", "service", "service 6", "do", "do ann", "do ann put x",
                     "tell", "tell Ann", "hear ann", "hear ann -1", "hear ann 00", "meet bob,ann", "meet", "exchange ann", "exchange ann -",
                     "exchange ann 0 0", "give ann bob 0", "giveup ann", "give_up ann 0", "giveup ann -", "go", "is_full", "sums\nwhole",
                     "do ann put\ndo ann take", "counts", "-", "ok", FIRST + "\n", FIRST + "\ntell ann", FIRST + "\nundo",
                     FIRST.replace("service 6", "service 7"), FIRST.replace("service 6", "service 5"), FIRST[:40])
        self.refused(*[value for value in ANYTHING if type(value) is str])
        self.refused("right " + "a" * 3994, "x" * 4000, service=Service(TILL, (4,), (((0,),), ((0,),))))

    def test_errors_of_the_service(self):
        one = desk()
        for row, error in (("right eve", UnknownHand("eve")), ("copy put", UnknownHand("put")), ("room x", UnknownHand("x")),
                           ("spare eve", UnknownHand("eve")), ("sure eve", UnknownHand("eve")), ("groups eve put", UnknownHand("eve")),
                           ("groups bob put", UnknownDeed(("bob", "put"))), ("groups eve eve", UnknownHand("eve")),
                           ("undo", NothingToUndo(0)), ("do eve put", InvalidEvent(("do", "eve", "put"), "hand")),
                           ("do bob put", InvalidEvent(("do", "bob", "put"), "deed")), ("hear ann 0", InvalidEvent(("hear", "ann", 0), "letter")),
                           ("giveup ann 0,0", InvalidEvent(("giveup", "ann", ((0, 0),)), "rights"))):
            self.assert_fails(error, one.say, row)
        self.assert_same([one.say("log"), one.counts()], ["-", (15, 15)])

    def test_forty_events(self):
        one = desk()
        for n in range(40):
            self.assert_same(one.say("tell ann"), str(n))
        self.assert_fails(InvalidEvent(("tell", "bob"), "full"), one.say, "tell bob")
        self.assert_same([one.say("count"), one.say("undo"), one.say("tell bob")], ["40", "tell ann", "39"])

    def test_each_desk_has_its_own_service(self):
        one, other = desk(), desk()
        self.assert_same([one.say("do ann put"), other.say("count"), other.say(event_line(GIFT)), one.say("letters")],
                         ["1", "0", "0", "0"])

    def test_any_strings(self):
        one = desk()
        answered = 0
        for first in (*PLAIN, *OF_HAND, "groups", "do", "tell", "hear", "x"):
            for rest in ("", " ann", " ann put", " ann 0", " bob take", " ann,bob", " -", "\n", " eve"):
                try:
                    self.assertIs(type(one.say(first + rest)), str)
                    answered += 1
                except RightError as error:
                    self.assertIs(type(error) is InvalidRow, not (
                        (rest == "" and first in PLAIN) or (rest in (" ann", " eve") and first in (*OF_HAND, "tell")) or
                        (rest in (" ann put", " bob take") and first in ("groups", "do")) or (rest == " ann 0" and first == "hear")))
        self.assertGreater(answered, 18)


if __name__ == "__main__":
    unittest.main()
