"""Papers that show whether rights may be exchanged."""

from ownrights.adding import subtracted
from ownrights.exchanges import check_exchange, surroundings
from ownrights.goods import good_states
from ownrights.rests import all_added, all_in, choice_outside, least_choice_sum, sums_of_rights


def candidates_of(old, new, target):
    """The candidates, ascending; target has the good states."""
    least = least_choice_sum(old)
    new_sums = sums_of_rights(new)
    sums = [subtracted(one, least) for one in target]
    return [one for one in sums if not all_in(all_added((one,), new_sums), target)]


def _outside_with(one, rights, target):
    """A choice of some rights with which a sum does not lead into the target, or None if there is none."""
    choice = choice_outside(((one,), *rights), target)
    return None if choice is None else choice[1:]


def harm_of(store, old, new):
    """A pair of one of the surroundings of old and a choice of new with which it is no good state, or None."""
    target = list(good_states(store))
    for one in surroundings(store, old):
        choice = _outside_with(one, new, target)
        if choice is not None:
            return (one, choice)
    return None


def exchange_paper(store, old, new):
    """An exchange paper of old and new rights."""
    check_exchange(store, old, new)
    harm = harm_of(store, old, new)
    if harm is not None:
        return ("harms", *harm)
    target = list(good_states(store))
    # What is one of the surroundings leads to good states with each choice of new, so no candidate is one.
    rows = [(one, _outside_with(one, old, target)) for one in candidates_of(old, new, target)]
    return ("keeps", tuple(rows))
