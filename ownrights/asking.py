"""Who has to be asked for a deed, and what rights they have then."""

from ownrights.adding import added
from ownrights.deeds import deed_rows, hand_names, sum_of
from ownrights.exchanges import worth
from ownrights.goods import good_sums, is_good
from ownrights.rests import as_set, grown_rights


def of_group(store, group, values):
    """Those of some values, one for each hand of the store, that belong to a group."""
    return tuple([value for hand, value in zip(hand_names(store), values) if hand in group])


def has_all(group, other):
    """Whether a group contains another one."""
    return all([hand in group for hand in other])


def groups_with(store, hand):
    """All sets of hands that contain a hand, ascending."""
    groups = [()]
    for name in hand_names(store):
        groups = groups + [(*group, name) for group in groups]
    return tuple(sorted([group for group in groups if hand in group]))


def behind_deed(store, sums, key, group):
    """The sums of a group, added, with a deed of one of them."""
    step = sum_of(store, key)
    own = of_group(store, group, sums)
    return added(step, *own)


def suffices(store, start, family, sums, key, group):
    """Whether a group suffices for a deed; UnknownDeed for any value that is no key."""
    behind = behind_deed(store, sums, key, group)
    if key[0] not in group:
        return False
    if group == hand_names(store) and is_good(store, added(start, behind)):
        return True
    value = worth(store, of_group(store, group, family))
    return value is not None and behind in value


def contains_other(groups, group):
    """Whether a group contains one of some groups that is not the same."""
    return any([other != group and has_all(group, other) for other in groups])


def least_groups(store, start, family, sums, key):
    """The set of all groups that suffice, while no part of them does; UnknownDeed for any value that is no key."""
    sum_of(store, key)
    groups = [group for group in groups_with(store, key[0]) if suffices(store, start, family, sums, key, group)]
    return tuple([group for group in groups if not contains_other(groups, group)])


def _rights_at(store, sums, key):
    """For each hand the set of its own sum, for that of the key with the sum behind the deed, too."""
    step = sum_of(store, key)
    return [as_set([one, added(one, step)]) if hand == key[0] else (one,)
            for hand, one in zip(hand_names(store), sums)]


def group_rights(store, start, family, sums, group, *, key=None):
    """The rights of a group that meets, for a deed if there is a key, in order; None if it does not suffice for it.

    UnknownHand for the first element of the group that is no hand, then UnknownDeed for a value that is no key.
    """
    for hand in group:
        deed_rows(store, hand)
    if key is not None and not suffices(store, start, family, sums, key, group):
        return None
    old = of_group(store, group, family)
    rights = old if key is None else of_group(store, group, _rights_at(store, sums, key))
    target = good_sums(store, start) if group == hand_names(store) else worth(store, old)
    return grown_rights(rights, target, ())
