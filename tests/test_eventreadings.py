"""DOC.md [3], [17] to [19], [55], [66], [67]: events and logs read from lines."""

import unittest

from ownrights.errors import InvalidText
from ownrights.eventreadings import read_event, read_log
from ownrights.eventtexts import event_line, log_lines
from tests.helpers import StrictTest
from tests.test_eventtexts import EVENTS, LINES, LOG

NO_NAMES = ["", "abcdefghi", "Ann", "a1", "-", "1", "ann\n", "\nann", "a.b"]
NO_NUMBERS = ["", "-", "-1", "-0", "+1", "01", "00", "a", "1,2", "1;2", "1\n", "1" + "0" * 60, "1.0"]
NO_RIGHTS = ["", "-", "1;0", "0;0", "0;1,2", "0,1;0,0", ";", ",", "01", "-0", "0;", "0,", "x", "0\n", "-;0",
             "1" + "0" * 60, "--1"]
NO_HANDS = ["", ",", "ann,", ",ann", "bob,ann", "ann,ann", "ann;bob", "ann,bob,b", "Ann", "ann,Bob", "ann\n", "-",
            "ann,abcdefghi"]


class ReadEventTest(StrictTest):
    def wrong(self, text, field):
        with self.subTest(text=text):
            self.assert_fails(InvalidText(0, field), read_event, text)

    def test_examples(self):
        due = ("exchange", ("ann", "bob"), (((0,), (1,)), ((-1,), (0,))))
        self.assert_same(read_event("exchange ann,bob 0;1 -1;0"), due)
        self.wrong("meet bob,ann", 1)

    def test_events(self):
        for event, line in EVENTS:
            self.assert_same(read_event(line), event)
            self.assert_same(read_event(text=line), event)
            self.assert_same(event_line(read_event(line)), line)

    def test_first_words(self):
        for word in ("", "Do", "dos", "give_up", "undo", "service", "start", "family", "1", "-", "do\n", "\ndo"):
            self.wrong(word, 0)
            self.wrong(f"{word} ann put", 0)
        self.wrong(" do ann put", 0)
        self.wrong(" ", 0)

    def test_missing_words(self):
        for _, line in EVENTS:
            words = line.split(" ")
            for many in range(1, len(words)):
                self.wrong(" ".join(words[:many]), many)

    def test_one_word_too_many(self):
        for _, line in EVENTS:
            many = len(line.split(" "))
            for more in ("", "ann", "0", "-", "\n", "0 x"):
                self.wrong(f"{line} {more}", many)

    def test_a_newline_belongs_to_its_word(self):
        for _, line in EVENTS:
            words = line.split(" ")
            for at in range(len(words)):
                for word in (words[at] + "\n", "\n" + words[at]):
                    self.wrong(" ".join([*words[:at], word, *words[at + 1:]]), at)

    def test_names(self):
        for word in NO_NAMES:
            for text, field in (("do {} put", 1), ("do ann {}", 2), ("ask {} put", 1), ("ask ann {}", 2), ("tell {}", 1),
                                ("hear {} 0", 1), ("take {} 0", 1), ("give {} bob 0 0", 1), ("give ann {} 0 0", 2),
                                ("giveup {} 0", 1)):
                self.wrong(text.format(word), field)

    def test_numbers(self):
        for word in NO_NUMBERS:
            self.wrong(f"hear ann {word}", 2)
            self.wrong(f"take ann {word}", 2)
        self.assert_same(read_event("take a 0"), ("take", "a", 0))

    def test_sets_of_names(self):
        for word in NO_HANDS:
            self.wrong(f"meet {word}", 1)
            self.wrong(f"exchange {word} 0 0", 1)

    def test_rights(self):
        for word in NO_RIGHTS:
            for text, field in (("exchange ann {}", 2), ("exchange ann,bob {} 0", 2), ("exchange ann,bob 0 {}", 3),
                                ("give ann bob {} 0", 3), ("give ann bob 0 {}", 4), ("giveup ann {}", 2)):
                self.wrong(text.format(word), field)

    def test_a_right_for_each_hand(self):
        self.wrong("exchange ann 0 0", 3)
        self.wrong("exchange ann,bob 0", 3)
        self.wrong("exchange ann,bob 0 0 0", 4)
        self.wrong("exchange ann,bob", 2)

    def test_nothing_else_is_checked(self):
        due = ("exchange", ("a", "b"), (((5,),), ((0, 0), (7, 7))))
        self.assert_same(read_event("exchange a,b 5 0,0;7,7"), due)

    def test_the_first_word_that_is_not_possible(self):
        self.wrong("give Ann bob - x", 1)
        self.wrong("give ann bob - x", 3)
        self.wrong("hear ann 01 x", 2)


class ReadLogTest(StrictTest):
    def wrong(self, line, field, lines):
        with self.subTest(lines=lines):
            kept = list(lines)
            self.assert_fails(InvalidText(line, field), read_log, lines)
            self.assertEqual(lines, kept)

    def put(self, at, *rows):
        """The lines with other rows in place of one."""
        return [*LINES[:at], *rows, *LINES[at + 1:]]

    def test_logs(self):
        self.assert_same(read_log(LINES), LOG)
        self.assert_same(read_log(lines=LINES[:9]), LOG[:1])
        self.assert_same(read_log(LINES[:10]), LOG[:2])
        self.assert_same(log_lines(read_log(LINES)), LINES)

    def test_nothing_else_is_checked(self):
        lines = ["service 4", "item b 1 0", "rule = item c 1", "hand d", "deed e 1,2", "start 1,2,3", "family 0 0,0 5",
                 "do x y"]
        due = (("service", ((("b", 1, 0),), (("=", ("item", "c"), 1),), (("d", (("e", (1, 2)),)),)), (1, 2, 3),
                (((0,),), ((0, 0),), ((5,),))), ("do", "x", "y"))
        self.assert_same(read_log(lines), due)
        self.assert_same(log_lines(due), lines)

    def test_missing_lines(self):
        for many in range(9):
            self.wrong(many, 0, LINES[:many])

    def test_the_first_line(self):
        rows = (("", 0), ("services 6", 0), ("Service 6", 0), (" service 6", 0), ("do ann put", 0), ("service", 1),
                ("service ", 1), ("service  6", 1), ("service six", 1), ("service -6", 1), ("service 06", 1),
                ("service 0", 1), ("service 1", 1), ("service 6 ", 2), ("service 6 6", 2), ("service " + "9" * 61, 1),
                ("service 00", 1), ("service 6,6", 1))
        for row, field in rows:
            self.wrong(0, field, self.put(0, row))
            self.wrong(0, field, [row])

    def test_too_few_lines_are_told(self):
        # The lines that are told make a store up to "deed put 1", "start" is due behind them.
        for many in (2, 3, 4, 5):
            self.wrong(many + 1, 0, self.put(0, f"service {many}"))
        self.wrong(3, 0, ["service 2", "item a 0 1", "item b 0 1", "hand c", "start 0", "family 0"])
        self.wrong(3, 0, ["service 2", "item a 0 1", "rule = 1 1", "hand c", "start 0", "family 0"])

    def test_too_many_lines_are_told(self):
        for many in ("7", "8", "100", "9" * 60):
            self.wrong(7, 0, self.put(0, f"service {many}"))
        self.wrong(7, 0, ["service 7", *LINES[1:7]])
        self.wrong(7, 0, ["service " + "9" * 60, *LINES[1:7]])
        self.wrong(1, 0, ["service 2"])
        self.wrong(2, 0, ["service 2", "item a 0 1"])
        self.wrong(2, 0, ["service 5", "item a 0 1"])
        self.wrong(3, 0, ["service 5", "item a 0 1", "hand b"])

    def test_lines_of_the_store(self):
        rows = ((1, "", 0), (1, "hand ann", 0), (1, "item coins 0", 3), (1, "item coins 0 4 5", 4), (2, "deed put 1", 0),
                (2, "hand", 1), (2, "hand ann bob", 2), (3, "deed put", 2), (3, "deed put -0", 2), (3, "", 0),
                (4, "item a 0 1", 0), (4, "rule = 1 1", 0), (6, "deed take 1,", 2), (6, "start 2", 0))
        for at, row, field in rows:
            self.wrong(at, field, self.put(at, row))
            self.wrong(at, field, self.put(at, row)[:at + 1])
        self.wrong(2, 4, ["service 9", "item a 0 1", "rule = 1 1 1"])

    def test_the_line_of_the_start(self):
        rows = (("", 0), ("begin 2", 0), ("start", 1), ("start ", 1), ("start -", 1), ("start 1;2", 1), ("start 02", 1),
                ("start 2 ", 2), ("start 2 2", 2), ("family 0", 0), ("start x", 1), ("hand eve", 0))
        for row, field in rows:
            self.wrong(7, field, self.put(7, row))
        self.assert_same(read_log(self.put(7, "start -1,5"))[0][2], (-1, 5))

    def test_the_line_of_the_family(self):
        rows = [("", 0), ("families 0", 0), ("family", 1), ("start 2", 0), ("family 0 ", 2), ("family  0", 1)]
        rows += [(f"family {word}", 1) for word in NO_RIGHTS if "\n" not in word]
        rows += [(f"family 0 1 {word}", 3) for word in NO_RIGHTS if "\n" not in word]
        for row, field in rows:
            self.wrong(8, field, self.put(8, row))
        self.assert_same(read_log(self.put(8, "family 0"))[0][3], (((0,),),))

    def test_lines_of_events(self):
        for at in (9, 12, len(LINES) - 1):
            for row, field in (("", 0), ("do ann", 2), ("do ann put put", 3), ("meet bob,ann", 1), ("service 6", 0),
                               ("start 2", 0), ("undo", 0), ("take ann -1", 2), ("exchange ann,bob 0", 3)):
                self.wrong(at, field, self.put(at, row))
        self.wrong(len(LINES), 0, [*LINES, ""])

    def test_the_first_line_that_is_not_possible(self):
        lines = list(LINES)
        for at in range(len(LINES) - 1, -1, -1):
            lines[at] = "x"
            self.wrong(at, 0, list(lines))


if __name__ == "__main__":
    unittest.main()
