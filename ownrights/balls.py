"""How many deeds a hand can surely do within its right."""

from ownrights.adding import zero_sum
from ownrights.deeds import deed_rows
from ownrights.rests import all_added, as_set


def _one_more(steps, sums):
    """The set of the sums from which at most one more deed, with its sum among steps, leads."""
    return as_set(sums + all_added(sums, steps))


def _steps(store, hand):
    """The sums of the deeds of a hand."""
    return tuple([one for deed, one in deed_rows(store, hand)])


def ball(store, hand, n):
    """The set of the sums of at most n deeds of a hand, each as often as one likes."""
    steps = _steps(store, hand)
    reached = (zero_sum(len(store[0])),)
    for _ in range(n):
        further = _one_more(steps, reached)
        if further == reached:
            return reached
        reached = further
    return reached


def sure_number(store, right, done, hand, most):
    """The greatest number up to most of deeds that keep a hand within its right from done; None if done is outside."""
    steps = _steps(store, hand)
    if done not in right:
        return None
    reached = (done,)
    for number in range(most):
        further = _one_more(steps, reached)
        if further == reached:
            # No deed leads anywhere else, so any number of them stays within the right.
            return most
        if any([one not in right for one in further]):
            return number
        reached = further
    return most
