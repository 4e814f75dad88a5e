"""Lists of deeds: whether they can be done unasked, and how few meetings they need."""

from ownrights.adding import added, zero_sum
from ownrights.deeds import check_keys, hand_names, sum_of
from ownrights.families import is_safe
from ownrights.goods import good_states
from ownrights.rests import all_in, as_set


def _sums_of_hand(store, deeds, hand):
    """The sums of the first 0, 1, 2, .. deeds of a hand in a list."""
    sums = [zero_sum(len(store[0]))]
    for key in deeds:
        if key[0] == hand:
            step = sum_of(store, key)
            sums.append(added(sums[-1], step))
    return sums


def sums_in_turn(store, deeds):
    """For each hand the list of the sums of its first 0, 1, 2, .. deeds in a list; UnknownDeed as in passed."""
    check_keys(store, deeds)
    return [_sums_of_hand(store, deeds, hand) for hand in hand_names(store)]


def passed(store, deeds):
    """The family of the sums passed through; UnknownDeed for the first element of the list that is no key."""
    return tuple([as_set(sums) for sums in sums_in_turn(store, deeds)])


def can_do(store, start, deeds):
    """Whether a list can be done unasked; UnknownDeed for its first element that is no key."""
    return is_safe(store, start, passed(store, deeds))


def states_in_turn(store, start, deeds):
    """The list of the states behind the first 0, 1, 2, .. deeds of a list; UnknownDeed as in passed."""
    states = [start]
    for key in deeds:
        step = sum_of(store, key)
        states.append(added(states[-1], step))
    return states


def fewest_meetings(store, start, deeds):
    """The cuts for the fewest meetings, each as late as possible; None if some state on the way is not good.

    UnknownDeed for the first element of the list that is no key.
    """
    states = states_in_turn(store, start, deeds)
    if not all_in(states, list(good_states(store))):
        return None
    cuts = []
    begin = 0
    for end in range(1, len(deeds) + 1):
        # Part of what can be done unasked can be, too: so the hands meet only before a deed that cannot be.
        if not can_do(store, states[begin], deeds[begin:end]):
            begin = end - 1
            cuts.append(begin)
    return tuple(cuts)
