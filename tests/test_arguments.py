"""DOC.md [2]: functions do not change their arguments, and do not depend on earlier calls."""

import copy
import unittest

from ownrights.apart import may_go_apart, shortest_harm, whole
from ownrights.askchecker import lets_groups
from ownrights.askedchecker import lets_asked
from ownrights.asking import group_rights, least_groups
from ownrights.clashing import clash_of
from ownrights.conditions import is_condition, is_count, lets_rule
from ownrights.deeds import deeds_of, sum_of
from ownrights.errors import RightError
from ownrights.eventtexts import is_event
from ownrights.exchangechecker import lets_exchange
from ownrights.exchanges import grown_exchange, may_exchange, worth
from ownrights.families import grown, is_safe, rest_of
from ownrights.familychecker import lets_family
from ownrights.giftchecker import lets_gift
from ownrights.giving import reach
from ownrights.goods import is_good, led, moves
from ownrights.kinds import is_integer, is_name, is_number, is_sum, is_sums
from ownrights.listchecker import lets_meetings
from ownrights.listpapers import meetings_paper
from ownrights.lists import can_do, fewest_meetings, passed
from ownrights.numberchecker import lets_numbers
from ownrights.replaying import is_log
from ownrights.runchecker import lets_runs
from ownrights.runpapers import run_paper
from ownrights.services import Service
from ownrights.storechecker import lets_store
from ownrights.storeclasses import Store
from ownrights.sums import Sums
from ownrights.terms import Count, Rule
from tests.helpers import ANYTHING, BOTH, SHOP, START, TILL, StrictTest

PUT, BOB = ("ann", "put"), ("bob", "take")


def follow(event):
    """What a service answers, and its log then."""
    service = Service(TILL, START, BOTH)
    return service.go(event), service.log()


CALLS = [
    is_integer, is_number, is_name, is_count, is_condition, lets_store, Sums, lambda thing: is_sum(thing, 1),
    lambda thing: is_sums(thing, 1), lambda thing: lets_rule(TILL[0], thing), lambda thing: deeds_of(TILL, thing),
    lambda thing: sum_of(TILL, thing), lambda thing: lets_store((SHOP[0], (("=", 1, thing),), SHOP[2])),
    lambda thing: is_good(TILL, thing), lambda thing: led(TILL, START, thing), lambda thing: moves(TILL, START, thing),
    lambda thing: clash_of(TILL, ("ann", "put"), thing), lambda thing: lets_asked(TILL, thing),
    lambda thing: lets_asked(TILL, ((thing,), None)), lambda thing: lets_asked(TILL, ((("ann", "take"),), thing)),
    lambda thing: may_go_apart(TILL, START, (thing,)), lambda thing: shortest_harm(TILL, START, (thing,)),
    lambda thing: whole(TILL, START, ((thing,), ())), lambda thing: is_safe(TILL, START, thing),
    lambda thing: is_safe(TILL, START, (thing, BOTH[1])), lambda thing: rest_of(TILL, START, BOTH, thing),
    lambda thing: grown(TILL, START, BOTH, thing), lambda thing: worth(TILL, thing),
    lambda thing: may_exchange(TILL, BOTH, thing), lambda thing: may_exchange(TILL, (thing,), BOTH),
    lambda thing: grown_exchange(TILL, BOTH, BOTH, thing), lambda thing: lets_family(TILL, START, BOTH, thing),
    lambda thing: lets_family(TILL, START, BOTH, ("grows", 0, thing)),
    lambda thing: lets_family(TILL, (4,), BOTH, ("unsafe", (thing, thing))),
    lambda thing: lets_exchange(TILL, BOTH, BOTH, thing), lambda thing: lets_exchange(TILL, BOTH, BOTH, ("harms", thing, ())),
    lambda thing: least_groups(TILL, START, BOTH, ((0,), (0,)), thing),
    lambda thing: group_rights(TILL, START, BOTH, ((0,), (0,)), (thing,)),
    lambda thing: thing in Sums(((0,),)), lambda thing: Sums(()).shifted(thing),
    lambda thing: reach(TILL, ((0,), (1,)), (0,), thing), lambda thing: passed(TILL, (PUT, thing)),
    lambda thing: can_do(TILL, START, (thing,)), lambda thing: fewest_meetings(TILL, START, (thing, PUT)),
    lambda thing: meetings_paper(TILL, START, (thing,)), lambda thing: lets_meetings(TILL, START, (PUT,), thing),
    lambda thing: lets_meetings(TILL, START, (PUT,), ("cuts", thing, ())), lambda thing: lets_meetings(TILL, START, (thing,), ()),
    lambda thing: lets_numbers(TILL, START, (1, 1), thing), lambda thing: lets_numbers(TILL, START, (1, 1), ("sure", thing)),
    lambda thing: lets_numbers(TILL, START, (1, 1), ("bad", (thing, ()))), lambda thing: lets_runs(TILL, START, (PUT,), thing),
    lambda thing: lets_runs(TILL, START, (PUT,), ("good", thing)), lambda thing: run_paper(TILL, START, (BOB, thing)),
    lambda thing: lets_groups(TILL, START, BOTH, ((0,), (0,)), PUT, thing),
    lambda thing: lets_groups(TILL, START, BOTH, ((1,), (0,)), PUT, ((("ann", "bob"),), thing)),
    lambda thing: lets_groups(TILL, START, BOTH, ((0,), (0,)), thing, ((), ())),
    lambda thing: lets_gift(TILL, BOTH[0], BOTH[0], BOTH[1], BOTH[1], thing),
    lambda thing: lets_gift(TILL, BOTH[0], BOTH[0], BOTH[1], BOTH[1], ((0,), (0,), thing)), is_event, is_log, follow,
    lambda thing: is_log((("service", TILL, START, BOTH), thing)), lambda thing: is_log((("service", TILL, START, thing),)),
    lambda thing: follow(("exchange", ("ann", "bob"), thing)), lambda thing: follow(("give", "ann", "bob", BOTH[0], thing)),
    lambda thing: follow(("meet", thing)), lambda thing: Count(thing).form, lambda thing: Rule(("=", 1, thing)).form,
    lambda thing: Count.item(thing).form, lambda thing: Store(TILL[0], TILL[2], thing).form,
    lambda thing: Store(TILL[0], thing).form, lambda thing: Service(TILL, thing, BOTH).log(),
    lambda thing: Service(TILL, START, thing).log(), lambda thing: thing in Service(TILL, START, BOTH),
]


def answer(call, value):
    """What the call returns, or the class and the fields of the error that it raises."""
    try:
        found = call(value)
    except RightError as error:
        return type(error).__name__, [value for _, value in sorted(vars(error).items())]
    return found.form if isinstance(found, Sums) else found


class ArgumentsTest(StrictTest):
    def test_any_value_stays_as_it_is(self):
        for call in CALLS:
            for value in ANYTHING:
                kept = copy.deepcopy(value)
                first = answer(call, value)
                self.assert_same(value, kept)
                self.assert_same(answer(call, value), first)


if __name__ == "__main__":
    unittest.main()
