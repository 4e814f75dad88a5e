"""DOC.md [7] (U1 to U9), [30], [64]: the whole program, from texts to answers."""

import random
import unittest

from ownrights.askchecker import lets_groups
from ownrights.askpapers import groups_paper
from ownrights.families import grown, is_greatest, is_safe
from ownrights.familychecker import lets_family
from ownrights.familypapers import family_paper
from ownrights.giftchecker import lets_gift
from ownrights.giftpapers import gift_paper
from ownrights.listchecker import lets_meetings
from ownrights.listpapers import meetings_paper
from ownrights.lists import can_do, passed
from ownrights.numberchecker import lets_numbers
from ownrights.numberpapers import numbers_paper
from ownrights.desk import Desk
from ownrights.errors import InvalidEvent
from ownrights.eventtexts import event_line, log_lines
from ownrights.fairness import fairest
from ownrights.eventreadings import read_log
from ownrights.goods import is_good
from ownrights.replaying import replayed
from ownrights.services import Service
from ownrights.storeclasses import Store
from ownrights.storereadings import store_read
from ownrights.storetexts import store_text
from ownrights.terms import Count
from tests.direct import GRID, STORES, good, goods, grown_family, hands_of, keys_of, plus, safe, safe_families, step, zero
from tests.helpers import StrictTest
from tests.model import Model, some_event
from tests.test_services import live

SHELF = """item apples 0 5
item pears 0 5
rule < + item apples item pears 8
hand ann
deed eat -1,0
deed pick 1,0
hand bob
deed pick 0,1
hand eve
deed swap 1,-1"""


class MomentsTest(StrictTest):
    """What holds at any time, whatever is heard late, again or never."""

    def look(self, service, due):
        self.assertTrue(safe(service.store, service.start, service.family))
        for one, right in zip(service.sums, service.family):
            self.assertIn(one, right)
        self.assertTrue(good(service.store, service.whole))
        for hand in due.hands:
            if all(due.heard[hand][other] == len(due.done[other]) for other in due.hands):
                self.assert_same(service.copy_of(hand), service.whole)
            for other in due.hands:
                if due.heard[hand] == due.heard[other]:
                    self.assert_same(service.copy_of(hand), service.copy_of(other))

    def test_at_every_moment(self):
        for service, due, chance in live(70, 8):
            for _ in range(60):
                event = some_event(chance, due)
                if due.reason(event) is not None:
                    continue
                rights, sums = service.family, service.sums
                due.go(event)
                service.go(event)
                self.look(service, due)
                if event[0] in ("tell", "hear"):
                    self.assert_same([service.family, service.sums], [rights, sums])
                if event[0] in ("do", "ask"):
                    self.assert_same([one for hand, one in zip(due.hands, service.sums) if hand != event[1]],
                                     [one for hand, one in zip(due.hands, sums) if hand != event[1]])
                if event[0] == "meet" and list(event[1]) == due.hands:
                    self.assert_same(is_greatest(service.store, service.start, service.family), True)
                    self.assert_same([service.copy_of(hand) for hand in due.hands], [service.whole] * len(due.hands))

    def test_a_deed_is_refused_only_if_it_leads_out_of_the_right(self):
        for service, due, chance in live(71, 3):
            for _ in range(15):
                for hand, deed in keys_of(service.store):
                    behind = plus(service.sums[due.hands.index(hand)], step(service.store, (hand, deed)))
                    if behind in service[hand]:
                        self.assert_same(service.do(hand, deed), behind)
                        due.go(("do", hand, deed))
                    else:
                        self.assert_fails(InvalidEvent(("do", hand, deed), "right"), service.do, hand, deed)
                event = some_event(chance, due)
                if due.reason(event) is None:
                    due.go(event)
                    service.go(event)
                if len(service) > 30:
                    break

    def test_letters_that_give_are_taken_once_at_most(self):
        for service, due, chance in live(72, 6):
            taken = {}
            for _ in range(80):
                event = some_event(chance, due)
                if due.reason(event) is None:
                    due.go(event)
                    service.go(event)
                    if event[0] == "take":
                        self.assertNotIn(event[2], taken)
                        taken[event[2]] = True
                for n in taken:
                    self.assertNotEqual(due.reason(("take", due.letters[n][2], n)), None)

    def test_what_was_done_unasked_could_have_been_done_in_any_order(self):
        chance = random.Random(73)
        mixed_up = 0
        for store in [*STORES, GRID]:
            for start, family in safe_families(store, chance, 20, tries=8):
                service = Service(store, start, grown_family(store, start, family))
                done = []
                for _ in range(12):
                    keys = service.open_deeds()
                    if keys:
                        done.append(("do", *chance.choice(keys)))
                        service.go(done[-1])
                order = [event[1] for event in done]
                chance.shuffle(order)
                rows = {hand: [event for event in done if event[1] == hand] for hand in hands_of(store)}
                mixed = [rows[hand].pop(0) for hand in order]
                mixed_up += mixed != done
                other = Service(store, start, service.family)
                self.assert_same(other.do_all(*mixed), len(done))
                self.assert_same([other.sums, other.whole], [service.sums, service.whole])
        self.assertGreater(mixed_up, 20)

    def test_papers_for_what_holds(self):
        # Rights that were returned are passed in again, however great they are.
        words = set()
        for service, due, chance in live(74, 3):
            store, start = service.store, service.start
            for _ in range(12):
                event = some_event(chance, due)
                if due.reason(event) is not None:
                    continue
                due.go(event)
                service.go(event)
                family, sums = service.family, service.sums
                paper = family_paper(store, start, family)
                words.add(lets_family(store, start, family, paper))
                self.assert_same(lets_family(store, start, family, paper) == "greatest", service.is_full())
                for key in keys_of(store)[::2]:
                    paper = groups_paper(store, start, family, sums, key)
                    self.assert_same(paper[0], service.groups_for(*key))
                    self.assert_same(lets_groups(store, start, family, sums, key, paper), len(paper[0]))
                if len(family) > 1:
                    rights = (family[0], family[0][:1], family[1], service.room(hands_of(store)[1]))
                    paper = gift_paper(store, *rights)
                    self.assertTrue(paper is None or lets_gift(store, *rights, paper) == paper[2])
        self.assertEqual(words, {"grows", "greatest"})


class FromTextsTest(StrictTest):
    def test_a_shelf(self):
        store = Store.parsed(SHELF)
        self.assert_same([str(store), list(store), len(store)], [SHELF, ["ann", "bob", "eve"], 3])
        still = ((zero(store.form),),) * 3
        family = grown(store.form, (2, 2), still, "eve", "ann")
        self.assert_same(is_safe(store.form, (2, 2), family), True)
        numbers, balls = fairest(store.form, (2, 2), 3)
        self.assert_same(lets_numbers(store.form, (2, 2), numbers, ("sure", balls)), True)
        self.assert_same(lets_numbers(store.form, (2, 2), (6, 6, 6), numbers_paper(store.form, (2, 2), (6, 6, 6))), False)
        desk = Desk()
        lines = log_lines((("service", store.form, (2, 2), balls),))
        self.assert_same([desk.say("\n".join(lines)), desk.say("full"), desk.say("sure eve")], ["ok", "no", str(numbers[2])])
        rows = ["do eve swap", "do ann pick", "tell ann", "hear eve 0", "meet ann,eve", "do bob pick", "ask ann pick",
                "meet ann,bob,eve"]
        service = Service(store.form, (2, 2), balls)
        for row in rows:
            desk.say(row)
        self.assert_same(desk.say("log"), " / ".join(rows))
        service = replayed(read_log([*lines, *rows]))
        self.assert_same([desk.say("whole"), desk.say("table")],
                         [",".join(map(str, service.whole)), " / ".join(service.table())])
        self.assert_same([is_good(store.form, service.whole), service.is_full(), desk.say("full")], [True, True, "yes"])

    def test_a_rule_more(self):
        # With a rule more fewer states are good, and rights that were safe need not be.
        store = Store.parsed(SHELF)
        apples, pears = Count.item("apples"), Count.item("pears")
        less = store.with_rule(~(apples.equals(pears) & (apples - 3).equals(0)))
        self.assert_same(set(goods(store.form)) - set(goods(less.form)), {(3, 3)})
        family = (((0, 0), (1, 0)), ((0, 0), (0, 1)), ((0, 0),))
        self.assert_same([is_safe(store.form, (2, 2), family), is_safe(less.form, (2, 2), family)], [True, False])
        self.assert_same(store_read(store_text(less.form)), less.form)
        self.assert_same(str(less).split("\n")[3], "rule not and = item apples item pears = - item apples 3 0")

    def test_lists_done_unasked(self):
        # A list that can be done unasked is done in a live store with the sums passed through as rights.
        chance = random.Random(75)
        done = 0
        for store in [*STORES, GRID]:
            keys = keys_of(store)
            for start in goods(store):
                for _ in range(6 if keys else 0):
                    deeds = tuple(chance.choices(keys, k=chance.randint(1, 5)))
                    paper = meetings_paper(store, start, deeds)
                    many = lets_meetings(store, start, deeds, paper)
                    if not can_do(store, start, deeds):
                        self.assertNotEqual(many, 0)
                        continue
                    self.assert_same(many, 0)
                    service = Service(store, start, passed(store, deeds))
                    for hand, deed in deeds:
                        self.assertIn((hand, deed), service)
                        service.do(hand, deed)
                    done += 1
        self.assertGreater(done, 40)

    def test_lists_done_with_meetings(self):
        # At each cut all hands meet, and have the sums passed through from there on.
        chance = random.Random(76)
        done = 0
        for store in [*STORES, GRID]:
            keys = keys_of(store)
            for start in goods(store):
                for _ in range(6 if keys else 0):
                    deeds = tuple(chance.choices(keys, k=chance.randint(2, 6)))
                    paper = meetings_paper(store, start, deeds)
                    if paper[0] == "never" or paper[1] == ():
                        continue
                    bounds = (0, *paper[1], len(deeds))
                    pieces = [deeds[begin:end] for begin, end in zip(bounds, bounds[1:])]
                    service = Service(store, start, passed(store, pieces[0]))
                    service.do_all(*[("do", *key) for key in pieces[0]])
                    for piece in pieces[1:]:
                        # Rights count from the beginning, the sums passed through from the cut.
                        rights = tuple(tuple(sorted(plus(one, there) for there in right))
                                       for one, right in zip(service.sums, passed(store, piece)))
                        service.exchange(tuple(hands_of(store)), rights)
                        self.assert_same(service.do_all(*[("do", *key) for key in piece]), len(piece))
                    done += 1
        self.assertGreater(done, 20)

    def test_the_greatest_store(self):
        # Three hands with three deeds each, thirty-six good states, forty events.
        chance = random.Random(77)
        service = Service(GRID, (2, 2), (((0, 0),),) * 3)
        due = Model(GRID, (2, 2), service.family)
        while len(service) < Service.MOST:
            event = some_event(chance, due)
            if due.reason(event) is None:
                due.go(event)
                service.go(event)
        self.assert_same([service.table(), service.family, service.whole], [due.table(), due.family(), due.whole()])
        desk = Desk()
        for row in ["\n".join(log_lines(service.log()[:1])), *map(event_line, service.log()[1:])]:
            desk.say(row)
        self.assert_same([desk.say("log"), desk.say("count")], [str(service), "40"])
        self.assert_same(replayed(service.log()) == service, True)


if __name__ == "__main__":
    unittest.main()
