"""Whether any value is a groups paper."""

from ownrights.adding import added
from ownrights.asking import behind_deed, contains_other, groups_with, has_all, of_group, suffices
from ownrights.deeds import hand_names, sum_of
from ownrights.errors import InvalidPaper
from ownrights.goods import good_table
from ownrights.kinds import is_ascending, is_pair, is_sum, is_tuple_of
from ownrights.rests import all_added, all_in, sums_of_rights


def _is_tuple(thing):
    """Whether any value is a tuple."""
    return isinstance(thing, tuple)


def _is_bar(thing):
    """Whether any value is a pair of tuples."""
    return is_pair(thing) and is_tuple_of(thing, _is_tuple)


def _is_group(store, thing):
    """Whether a tuple of any values is a set of hands."""
    hands = hand_names(store)
    return all([hand in hands for hand in thing]) and is_ascending(thing)


def _check_groups(store, start, family, sums, key, groups):
    """Raise InvalidPaper for the first tuple that is no group that suffices, or contains another one."""
    sets = [group for group in groups if _is_group(store, group)]
    for at, group in enumerate(groups):
        if not _is_group(store, group) or (at > 0 and groups[at - 1] >= group):
            raise InvalidPaper("group", at)
        if not suffices(store, start, family, sums, key, group) or contains_other(sets, group):
            raise InvalidPaper("enough", at)


def _is_bar_of(store, start, family, sums, key, group, one):
    """Whether a tuple shows that a group that contains the hand of the key does not suffice."""
    good = good_table(store)
    behind = behind_deed(store, sums, key, group)
    if group == hand_names(store):
        return one == () and added(start, behind) not in good
    if not is_sum(one, len(start)) or added(one, behind) in good:
        return False
    return all_in(all_added((one,), sums_of_rights(of_group(store, group, family))), good)


def lets_groups(store, start, family, sums, key, thing):
    """How many groups any value has as a groups paper; InvalidPaper for the first thing that is wrong with it.

    UnknownDeed for a value that is no key.
    """
    sum_of(store, key)
    if not is_pair(thing) or not is_tuple_of(thing[0], _is_tuple) or not is_tuple_of(thing[1], _is_bar):
        raise InvalidPaper("shape", -1)
    groups, bars = thing
    _check_groups(store, start, family, sums, key, groups)
    due = [group for group in groups_with(store, key[0]) if not any([has_all(group, one) for one in groups])]
    if [group for group, one in bars] != due:
        raise InvalidPaper("bars", -1)
    for at, (group, one) in enumerate(bars):
        if not _is_bar_of(store, start, family, sums, key, group, one):
            raise InvalidPaper("bar", at)
    return len(groups)
