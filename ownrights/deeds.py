"""The deeds of a store: their names, their keys and their sums."""

from ownrights.adding import added
from ownrights.errors import UnknownDeed, UnknownHand


def deed_rows(store, hand):
    """The deeds of a hand with their sums, as they stand in the store; UnknownHand for any value that is none."""
    for name, rows in store[2]:
        if name == hand:
            return rows
    raise UnknownHand(hand)


def hand_names(store):
    """The names of all hands, ascending."""
    return tuple([hand for hand, rows in store[2]])


def place_of(store, hand):
    """Which one a hand is, counted from 0; UnknownHand for any value that is none."""
    deed_rows(store, hand)
    return hand_names(store).index(hand)


def deeds_of(store, hand):
    """The names of the deeds of a hand; UnknownHand for any value that is none."""
    return tuple([deed for deed, one in deed_rows(store, hand)])


def sum_of(store, key):
    """The sum of the deed with this key; UnknownDeed for any value that is the key of none."""
    for hand, rows in store[2]:
        for deed, one in rows:
            if (hand, deed) == key:
                # Results are new tuples: the store's own one is not handed out.
                return added(one)
    raise UnknownDeed(key)


def check_keys(store, keys):
    """Raise UnknownDeed for the first of some values that is the key of no deed."""
    for key in keys:
        sum_of(store, key)


def all_keys(store):
    """The keys of all deeds, ascending as the hands and their deeds do."""
    return tuple([(hand, deed) for hand, rows in store[2] for deed, one in rows])
