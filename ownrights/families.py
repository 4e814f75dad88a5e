"""Families of rights: whether they are safe, and how they can grow."""

from ownrights.deeds import place_of
from ownrights.errors import InvalidFamily
from ownrights.goods import good_states, good_sums
from ownrights.kinds import is_right, is_tuple
from ownrights.rests import all_in, grown_rights, rest_beside, sums_of_rights


def check_family(store, family):
    """Raise InvalidFamily if any value is no family of a store."""
    items, rules, hands = store
    if not is_tuple(family, len(hands)):
        raise InvalidFamily("shape", -1)
    for at, right in enumerate(family):
        if not is_right(right, len(items)):
            raise InvalidFamily("right", at)


def whole_states(store, start, family):
    """The set of all states to which start and one sum of each right lead."""
    check_family(store, family)
    return sums_of_rights(((start,), *family))


def is_safe(store, start, family):
    """Whether start with each sum of all rights is good."""
    return all_in(whole_states(store, start, family), list(good_states(store)))


def rest_of(store, start, family, hand):
    """The rest of a hand beside the rights of the others; UnknownHand for any value that is none."""
    at = place_of(store, hand)
    check_family(store, family)
    return rest_beside(family, at, good_sums(store, start))


def is_greatest(store, start, family):
    """Whether a family is safe and each right is its rest."""
    check_family(store, family)
    target = good_sums(store, start)
    # If a right is its rest, the family is safe.
    return all([right == rest_beside(family, at, target) for at, right in enumerate(family)])


def grown(store, start, family, *hands):
    """The family in which each right is replaced by its rest: first those of hands, then the others in order.

    UnknownHand for the first of hands that is none; InvalidFamily, also if the family is not safe.
    """
    places = [place_of(store, hand) for hand in hands]
    if not is_safe(store, start, family):
        raise InvalidFamily("unsafe", -1)
    return grown_rights(family, good_sums(store, start), places)
