"""Whether any value is a gift paper."""

from ownrights.adding import added
from ownrights.errors import InvalidPaper
from ownrights.goods import good_states
from ownrights.kinds import is_integer_rows, is_sum, is_tuple
from ownrights.rests import all_added, all_in


def lets_gift(store, old, new, heir_old, heir_new, thing):
    """The sum c of any value as a gift paper; InvalidPaper for the first thing that is wrong with it."""
    if not is_tuple(thing, 3) or not is_integer_rows(thing):
        raise InvalidPaper("shape", -1)
    given, got, around = thing
    if given not in new:
        raise InvalidPaper("given", -1)
    if got not in heir_new:
        raise InvalidPaper("got", -1)
    target = list(good_states(store))
    if not is_sum(around, len(store[0])) or not all_in(all_added((around,), all_added(old, heir_old)), target):
        raise InvalidPaper("old", -1)
    if added(around, given, got) in target:
        raise InvalidPaper("good", -1)
    return around
