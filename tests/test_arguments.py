"""DOC.md [2]: functions do not change their arguments, and do not depend on earlier calls."""

import copy
import unittest

from ownrights.conditions import is_condition, is_count, lets_rule
from ownrights.deeds import deeds_of, sum_of
from ownrights.errors import RightError
from ownrights.kinds import is_integer, is_name, is_number, is_sum, is_sums
from ownrights.storechecker import lets_store
from ownrights.sums import Sums
from tests.helpers import ANYTHING, SHOP, TILL, StrictTest

CALLS = [
    is_integer, is_number, is_name, is_count, is_condition, lets_store, Sums, lambda thing: is_sum(thing, 1),
    lambda thing: is_sums(thing, 1), lambda thing: lets_rule(TILL[0], thing), lambda thing: deeds_of(TILL, thing),
    lambda thing: sum_of(TILL, thing), lambda thing: lets_store((SHOP[0], (("=", 1, thing),), SHOP[2])),
    lambda thing: thing in Sums(((0,),)), lambda thing: Sums(()).shifted(thing),
]


def answer(call, value):
    """What the call returns, or the class and the fields of the error that it raises."""
    try:
        found = call(value)
    except RightError as error:
        return type(error).__name__, [value for _, value in sorted(vars(error).items())]
    return found.form if isinstance(found, Sums) else found


class ArgumentsTest(StrictTest):
    def test_any_value_stays_as_it_is(self):
        for call in CALLS:
            for value in ANYTHING:
                kept = copy.deepcopy(value)
                first = answer(call, value)
                self.assert_same(value, kept)
                self.assert_same(answer(call, value), first)


if __name__ == "__main__":
    unittest.main()
