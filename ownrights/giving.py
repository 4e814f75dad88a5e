"""What hands give up, and what a hand may give another one by letter."""

from ownrights.adding import added
from ownrights.deeds import deed_rows, hand_names
from ownrights.exchanges import may_exchange, worth
from ownrights.rests import all_in, rest_of_sums


def reach(store, right, done, hand):
    """The set of the sums to which a hand comes from the sum done, each step within its right; () if done is outside.

    UnknownHand for any value that is no hand.
    """
    steps = [one for deed, one in deed_rows(store, hand)]
    if done not in right:
        return ()
    held = set(right)
    found = {done: True}
    waiting = [done]
    while waiting:
        one = waiting.pop()
        for step in steps:
            there = added(one, step)
            if there in held and there not in found:
                found[there] = True
                waiting.append(there)
    return tuple(sorted(found))


def given_up(store, family, sums):
    """The family in which each hand keeps only what it can come to from its sum."""
    return tuple([reach(store, right, done, hand) for hand, right, done in zip(hand_names(store), family, sums)])


def may_give(store, old, new, heir_old, heir_new):
    """Whether the giver's new right lies within the old one, the heir's old one within the new, and this is right."""
    if not all_in(new, old) or not all_in(heir_old, heir_new):
        return False
    # A gift is right if the two could exchange these rights.
    return may_exchange(store, (old, heir_old), (new, heir_new))


def greatest_gift(store, old, new, heir_old):
    """The greatest right that the heir can get if the giver's new right lies within the old one; otherwise None."""
    if not all_in(new, old):
        return None
    return rest_of_sums(new, worth(store, (old, heir_old)))
