"""What some hands may exchange among themselves without asking the others."""

from ownrights.errors import InvalidFamily
from ownrights.goods import good_states
from ownrights.kinds import is_number, is_right
from ownrights.rests import all_in, grown_rights, rest_of_sums, sums_of_rights


def _check_rights(store, rights, side):
    """Raise InvalidFamily for the first element of a tuple that is no right; side tells old, 0, from new, 1."""
    for at, right in enumerate(rights):
        if not is_right(right, len(store[0])):
            raise InvalidFamily("right", (side, at))


def _check_old(store, old):
    """Raise InvalidFamily if any value is no tuple of rights, at least one."""
    if not isinstance(old, tuple) or old == ():
        raise InvalidFamily("shape", 0)
    _check_rights(store, old, 0)


def check_exchange(store, old, new):
    """Raise InvalidFamily if any two values are no tuples of rights, as many in both."""
    _check_old(store, old)
    if not isinstance(new, tuple) or len(new) != len(old):
        raise InvalidFamily("shape", 1)
    _check_rights(store, new, 1)


def surroundings(store, old):
    """The set of all sums that lead to a good state with each sum of the rights."""
    _check_old(store, old)
    return rest_of_sums(sums_of_rights(old), list(good_states(store)))


def worth(store, old):
    """The set of all sums that lead to a good state with each of the surroundings; None if there are none."""
    around = surroundings(store, old)
    return rest_of_sums(around, list(good_states(store))) if around else None


def may_exchange(store, old, new):
    """Whether the sums of the new rights lie within the worth of the old ones, or this is None."""
    check_exchange(store, old, new)
    target = worth(store, old)
    return target is None or all_in(sums_of_rights(new), target)


def grown_exchange(store, old, new, *order):
    """The new rights, each replaced by its rest in the worth of the old ones: first those with the indexes order."""
    check_exchange(store, old, new)
    for place, at in enumerate(order):
        if not is_number(at) or at >= len(new):
            raise InvalidFamily("order", place)
    target = worth(store, old)
    if target is None or not may_exchange(store, old, new):
        raise InvalidFamily("worth", -1)
    return grown_rights(new, target, order)
