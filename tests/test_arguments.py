"""DOC.md [2]: functions do not change their arguments, and do not depend on earlier calls."""

import copy
import unittest

from ownrights.apart import may_go_apart, shortest_harm, whole
from ownrights.askedchecker import lets_asked
from ownrights.asking import group_rights, least_groups
from ownrights.clashing import clash_of
from ownrights.conditions import is_condition, is_count, lets_rule
from ownrights.deeds import deeds_of, sum_of
from ownrights.errors import RightError
from ownrights.exchangechecker import lets_exchange
from ownrights.exchanges import grown_exchange, may_exchange, worth
from ownrights.families import grown, is_safe, rest_of
from ownrights.familychecker import lets_family
from ownrights.goods import is_good, led, moves
from ownrights.kinds import is_integer, is_name, is_number, is_sum, is_sums
from ownrights.storechecker import lets_store
from ownrights.sums import Sums
from tests.helpers import ANYTHING, BOTH, SHOP, START, TILL, StrictTest

CALLS = [
    is_integer, is_number, is_name, is_count, is_condition, lets_store, Sums, lambda thing: is_sum(thing, 1),
    lambda thing: is_sums(thing, 1), lambda thing: lets_rule(TILL[0], thing), lambda thing: deeds_of(TILL, thing),
    lambda thing: sum_of(TILL, thing), lambda thing: lets_store((SHOP[0], (("=", 1, thing),), SHOP[2])),
    lambda thing: is_good(TILL, thing), lambda thing: led(TILL, START, thing), lambda thing: moves(TILL, START, thing),
    lambda thing: clash_of(TILL, ("ann", "put"), thing), lambda thing: lets_asked(TILL, thing),
    lambda thing: lets_asked(TILL, ((thing,), None)), lambda thing: lets_asked(TILL, ((("ann", "take"),), thing)),
    lambda thing: may_go_apart(TILL, START, (thing,)), lambda thing: shortest_harm(TILL, START, (thing,)),
    lambda thing: whole(TILL, START, ((thing,), ())), lambda thing: is_safe(TILL, START, thing),
    lambda thing: is_safe(TILL, START, (thing, BOTH[1])), lambda thing: rest_of(TILL, START, BOTH, thing),
    lambda thing: grown(TILL, START, BOTH, thing), lambda thing: worth(TILL, thing),
    lambda thing: may_exchange(TILL, BOTH, thing), lambda thing: may_exchange(TILL, (thing,), BOTH),
    lambda thing: grown_exchange(TILL, BOTH, BOTH, thing), lambda thing: lets_family(TILL, START, BOTH, thing),
    lambda thing: lets_family(TILL, START, BOTH, ("grows", 0, thing)),
    lambda thing: lets_family(TILL, (4,), BOTH, ("unsafe", (thing, thing))),
    lambda thing: lets_exchange(TILL, BOTH, BOTH, thing), lambda thing: lets_exchange(TILL, BOTH, BOTH, ("harms", thing, ())),
    lambda thing: least_groups(TILL, START, BOTH, ((0,), (0,)), thing),
    lambda thing: group_rights(TILL, START, BOTH, ((0,), (0,)), (thing,)),
    lambda thing: thing in Sums(((0,),)), lambda thing: Sums(()).shifted(thing),
]


def answer(call, value):
    """What the call returns, or the class and the fields of the error that it raises."""
    try:
        found = call(value)
    except RightError as error:
        return type(error).__name__, [value for _, value in sorted(vars(error).items())]
    return found.form if isinstance(found, Sums) else found


class ArgumentsTest(StrictTest):
    def test_any_value_stays_as_it_is(self):
        for call in CALLS:
            for value in ANYTHING:
                kept = copy.deepcopy(value)
                first = answer(call, value)
                self.assert_same(value, kept)
                self.assert_same(answer(call, value), first)


if __name__ == "__main__":
    unittest.main()
