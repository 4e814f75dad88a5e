"""Papers that show which groups suffice for a deed, and that no others do."""

from ownrights.adding import added
from ownrights.asking import behind_deed, groups_with, has_all, least_groups, of_group
from ownrights.deeds import hand_names
from ownrights.exchanges import surroundings
from ownrights.goods import is_good


def _bar(store, family, sums, key, group):
    """A sum that shows that a group does not suffice, () for the group of all hands."""
    if group == hand_names(store):
        return ()
    behind = behind_deed(store, sums, key, group)
    around = surroundings(store, of_group(store, group, family))
    return [one for one in around if not is_good(store, added(one, behind))][0]


def groups_paper(store, start, family, sums, key):
    """A groups paper for a deed whose groups are the least that suffice; UnknownDeed for a value that is no key."""
    groups = least_groups(store, start, family, sums, key)
    barred = [group for group in groups_with(store, key[0]) if not any([has_all(group, one) for one in groups])]
    return (groups, tuple([(group, _bar(store, family, sums, key, group)) for group in barred]))
